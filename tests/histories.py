"""Rows of deeds on pools, and a plain telling of a pool's roots to compare them with."""

from bornroots.commit import commit
from bornroots.desk import cut_to, link, make_file, make_folder, move, unlink, write
from bornroots.snapshots import clone, rollback, snapshot
from bornroots.views import names, read, told
from bornroots.volumes import destroy, make_volume, set_quota

from records import Table, some_deed

FILES = {"file": make_file, "folder": make_folder, "link": link, "unlink": unlink, "move": move, "write": write,
         "cut": cut_to}
ROOTS = {"make_volume": make_volume, "set_quota": set_quota, "destroy": destroy, "snapshot": snapshot, "clone": clone,
         "rollback": rollback, "commit": commit}


def call(pool, name, *given):
    """One deed of a row."""
    return {**FILES, **ROOTS}[name](pool, *given)


class Volume:
    def __init__(self, head, origin):
        self.head = head
        self.snaps = {}
        self.origin = origin

    def prev(self):
        return list(self.snaps.values())[-1] if self.snaps else self.origin


class Plain:
    """The volumes by name, their heads and snapshots being tables of paths; no room, no quotas, no books."""

    def __init__(self):
        self.volumes = {}

    def tables(self):
        found = {}
        for name, volume in self.volumes.items():
            found[name] = volume.head
            found.update({f"{name}@{snap}": table for snap, table in volume.snaps.items()})
        return found

    def all(self):
        """What each root tells."""
        return {name: table.all() for name, table in self.tables().items()}

    def refusal(self, deed, *given):
        """The refusal of a deed whose forms are right, as far as neither quotas nor room nor the book are asked."""
        if deed == "commit":
            return None
        first = given[0].partition("@")[0]
        if deed == "make_volume":
            return ("Taken", first) if first in self.volumes else None
        if first not in self.volumes:
            return ("NoVolume", first)
        if deed in FILES:
            return self.volumes[first].head.refusal(deed, *given[1:])
        return self.refused_root(deed, self.volumes[first], *given)

    def refused_root(self, deed, volume, name, *given):
        if deed == "destroy" and volume.snaps:
            return ("HasSnaps", name)
        if deed == "snapshot" and given[0] in volume.snaps:
            return ("Taken", given[0])
        if deed == "rollback" and volume.prev() is None:
            return ("NoSnap", name)
        if deed == "clone":
            if name not in self.tables():
                return ("NoRoot", name)
            if "@" not in name:
                return ("NoSnap", name)
            return ("Taken", given[0]) if given[0] in self.volumes else None
        return None

    def do(self, deed, *given):
        """Do a deed that is not refused."""
        if deed == "make_volume":
            self.volumes[given[0]] = Volume(Table(), None)
        elif deed == "clone":
            origin = self.tables()[given[0]]
            self.volumes[given[1]] = Volume(origin.twin(), origin)
        elif deed == "destroy":
            del self.volumes[given[0]]
        elif deed == "snapshot":
            volume = self.volumes[given[0]]
            volume.snaps[given[1]] = volume.head.twin()
        elif deed == "rollback":
            volume = self.volumes[given[0]]
            volume.head = volume.prev().twin()
        elif deed in FILES:
            self.volumes[given[0]].head.do(deed, *given[1:])

    def some_deed(self, chance):
        """A deed by chance: most are file deeds of some volume."""
        names_there = sorted(self.volumes) or ["a"]
        vol = chance.choice(names_there) if chance.random() < 0.97 else "no"
        if vol in self.volumes and chance.random() < 0.75:
            deed, *given = some_deed(chance, self.volumes[vol].head)
            return (deed, vol, *given)
        deed = chance.choice(["make_volume", "set_quota", "destroy", "snapshot", "snapshot", "clone", "rollback",
                              "commit", "commit"])
        if deed == "commit":
            return (deed,)
        if deed == "make_volume":
            return (deed, chance.choice("abcd"))
        if deed == "set_quota":
            return (deed, vol, chance.choice([0, 0, 20, 40, 60]))
        if deed == "snapshot":
            return (deed, vol, chance.choice("stuv"))
        if deed == "clone":
            return (deed, chance.choice(sorted(self.tables()) or ["a"]), chance.choice("abcd"))
        return (deed, vol)


def root_told(pool, root):
    """All that looks tell of a root, in the form of Table.all()."""
    found, waiting = {}, ["/"]
    while waiting:
        path = waiting.pop()
        if told(pool, root, path)[0] == "file":
            _, _, links, length = told(pool, root, path)
            found[path] = (links, read(pool, root, path, 0, 56))
            assert len(found[path][1]) == length
        else:
            found[path] = names(pool, root, path)
            if path.count("/") < 6 or path == "/":
                waiting += [(path if path != "/" else "") + "/" + name for name in found[path]]
    return found


def pool_told(pool):
    """All that looks tell of a pool, in the form of Plain.all()."""
    book = pool.root.book
    texts = []
    for root in book.roots.values():
        vol = book.volumes[root.volume].name
        texts.append(vol if root.snap is None else f"{vol}@{root.snap}")
    return {text: root_told(pool, text) for text in texts}
