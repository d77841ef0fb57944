"""Rows of deeds on pools, and a plain telling of a pool's roots to compare them with."""

import copy

from bornroots.commit import commit
from bornroots.desk import cut_to, link, make_file, make_folder, move, unlink, write
from bornroots.drops import drop
from bornroots.errors import Refused
from bornroots.faults import lose, rot, stray, wipe
from bornroots.mount import made_pool, mount
from bornroots.parcels import checked, sent
from bornroots.promotes import promote
from bornroots.receiving import receive
from bornroots.rewinds import rewind
from bornroots.rows import is_good
from bornroots.snapshots import clone, rollback, snapshot
from bornroots.state import Pool
from bornroots.views import names, read, told
from bornroots.volumes import destroy, make_volume, set_quota

from pools import all_seen, check_pool
from rawpool import check_answers
from records import Table, some_deed
from refusals import OFF, refusal
from rooms import room_refusal

FILES = {"file": make_file, "folder": make_folder, "link": link, "unlink": unlink, "move": move, "write": write,
         "cut": cut_to}
ROOTS = {"make_volume": make_volume, "set_quota": set_quota, "destroy": destroy, "snapshot": snapshot, "clone": clone,
         "rollback": rollback, "commit": commit, "drop": drop, "promote": promote, "rewind": rewind,
         "receive": receive}


# The deeds on roots, and commit, as often as they come by chance.
OFTEN = ["make_volume", "set_quota", "destroy", "rollback", "rewind", "commit", "commit", "drop", "drop", "clone",
         "clone", *3 * ["snapshot", "promote", "receive"]]


def call(pool, name, *given):
    """One deed of a row."""
    return {**FILES, **ROOTS}[name](pool, *given)


class Volume:
    def __init__(self, head, origin):
        self.head = head
        self.snaps = {}
        self.origin = origin

    def prev(self):
        return list(self.snaps.values())[-1] if self.snaps else self.origin


class Plain:
    """The volumes by name, their heads and snapshots being tables of paths; no room, no quotas, no books.

    What the last transaction and the one ahead of it left is kept, too, for what goes back to them. The tables of
    snapshots have a mark.
    """

    def __init__(self, tag=0):
        self.tag = tag
        self.volumes = {}
        self.root, self.elder = {}, None
        self.opened, self.number, self.last = 0, 1, 1
        # What streams tell, by the streams: the table of the snapshot.
        self.streams = {}

    def tables(self):
        found = {}
        for name, volume in self.volumes.items():
            found[name] = volume.head
            found.update({f"{name}@{snap}": table for snap, table in volume.snaps.items()})
        return found

    def all(self):
        """What each root tells."""
        return {name: table.all() for name, table in self.tables().items()}

    def shape(self):
        """The prev of each root, and the mark of each snapshot."""
        names_of = {id(table): (name, table.mark) for name, table in self.tables().items() if "@" in name}
        told = {}
        for name, volume in self.volumes.items():
            prev = None if volume.origin is None else names_of[id(volume.origin)]
            for snap, table in volume.snaps.items():
                told[f"{name}@{snap}"] = prev
                prev = names_of[id(table)]
            told[name] = prev
        return told

    def origins(self, table):
        """The names of the clones of a snapshot."""
        return [name for name, volume in self.volumes.items() if volume.origin is table]

    def owner(self, table):
        """The volume of a snapshot."""
        return next(volume for volume in self.volumes.values() if any(one is table for one in volume.snaps.values()))

    def refusal(self, deed, *given):
        """The refusal of a deed whose forms are right, as far as neither quotas nor room nor the book are asked."""
        if deed == "commit":
            return None
        if deed == "rewind":
            return ("NoElder", self.number) if self.elder is None and not self.opened else None
        if deed == "receive":
            return self.refused_stream(*given)
        first = given[0].partition("@")[0]
        if deed == "make_volume":
            return ("Taken", first) if first in self.volumes else None
        if first not in self.volumes:
            return ("NoVolume", first)
        if deed in FILES:
            return self.volumes[first].head.refusal(deed, *given[1:])
        return self.refused_root(deed, self.volumes[first], *given)

    def refused_root(self, deed, volume, name, *given):
        if deed == "destroy" and volume.snaps:
            return ("HasSnaps", name)
        if deed == "snapshot" and given[0] in volume.snaps:
            return ("Taken", given[0])
        if deed == "rollback" and volume.prev() is None:
            return ("NoSnap", name)
        if deed == "promote":
            return self.refused_promotion(volume, name)
        if deed in ("clone", "drop"):
            if name not in self.tables():
                return ("NoRoot", name)
            if "@" not in name:
                return ("NoSnap", name)
        if deed == "drop":
            return ("Cloned", name) if self.origins(self.tables()[name]) else None
        if deed == "clone":
            return ("Taken", given[0]) if given[0] in self.volumes else None
        return None

    def moved(self, volume):
        """The names of the snapshots that a promotion would move."""
        told = []
        for snap, table in self.owner(volume.origin).snaps.items():
            told.append(snap)
            if table is volume.origin:
                return told

    def refused_promotion(self, volume, name):
        if volume.origin is None:
            return ("NotClone", name)
        taken = [snap for snap in self.moved(volume) if snap in volume.snaps]
        return ("Taken", taken[0]) if taken else None

    def refused_stream(self, stream, vol, snap):
        base = stream[0][1:3]
        if base == (0, 0):
            return ("Taken", vol) if vol in self.volumes else None
        if vol not in self.volumes:
            return ("NoVolume", vol)
        volume = self.volumes[vol]
        if snap in volume.snaps:
            return ("Taken", snap)
        if volume.prev() is None or volume.prev().mark != base:
            return ("NoBase", vol)
        return None

    def commit(self):
        """A transaction: what stands by now is what it left."""
        self.elder, self.root = self.root, copy.deepcopy(self.volumes)
        self.last += 1
        self.number, self.opened = self.last, 0

    def mounted(self, pool):
        """The pool was mounted: its elder may be lost, and numbers may be passed over."""
        if self.opened:
            self.elder, self.root = self.root, copy.deepcopy(self.volumes)
        self.number, self.last, self.opened = pool.root.number, pool.last, 0
        if pool.elder is None:
            self.elder = None

    def do(self, deed, *given):
        """Do a deed that is not refused."""
        if self.opened == 8 or self.opened and deed not in FILES:
            self.commit()
        if deed in FILES:
            self.volumes[given[0]].head.do(deed, *given[1:])
            self.opened += 1
        elif deed == "rewind":
            self.volumes = copy.deepcopy(self.elder)
            self.commit()
        elif deed != "commit":
            self.do_root(deed, *given)
            self.commit()

    def do_root(self, deed, name, *given):
        volume = self.volumes.get(name)
        if deed == "make_volume":
            self.volumes[name] = Volume(Table(), None)
        elif deed == "clone":
            origin = self.tables()[name]
            self.volumes[given[0]] = Volume(origin.twin(), origin)
        elif deed == "destroy":
            del self.volumes[name]
        elif deed == "snapshot":
            volume.snaps[given[0]] = self.marked(volume.head, (self.tag, self.last + 1))
        elif deed == "rollback":
            volume.head = volume.prev().twin()
        elif deed == "drop":
            vol, _, snap = name.partition("@")
            del self.volumes[vol].snaps[snap]
        elif deed == "promote":
            other, origin = self.owner(volume.origin), volume.origin
            moved = {snap: other.snaps.pop(snap) for snap in self.moved(volume)}
            volume.snaps = {**moved, **volume.snaps}
            volume.origin, other.origin = other.origin, origin
        elif deed == "receive":
            self.take(name, *given)

    def take(self, stream, vol, snap):
        table = self.streams[stream]
        volume = self.volumes.setdefault(vol, Volume(None, None))
        volume.head = table.twin()
        volume.snaps[snap] = self.marked(table, checked(stream)[1])

    def marked(self, table, mark):
        other = table.twin()
        other.mark = mark
        return other

    def some_deed(self, chance):
        """A deed by chance: most are file deeds of some volume."""
        names_there = sorted(self.volumes) or ["a"]
        vol = chance.choice(names_there) if chance.random() < 0.97 else "no"
        if vol in self.volumes and chance.random() < 0.65:
            deed, *given = some_deed(chance, self.volumes[vol].head)
            return (deed, vol, *given)
        deed = chance.choice(OFTEN)
        if deed == "receive" and not self.streams:
            return ("commit",)
        given = self.some_root_deed(chance, deed, vol)
        # More often than not one that is granted, as far as the tables tell.
        if self.refusal(deed, *given) is not None and chance.random() < 0.7:
            return self.some_deed(chance)
        return (deed, *given)

    def some_root_deed(self, chance, deed, vol):
        if deed in ("commit", "rewind"):
            return ()
        if deed == "make_volume":
            return (chance.choice("abcdef"),)
        if deed == "set_quota":
            return (vol, chance.choice([0, 0, 9, 12, 16, 20, 40]))
        if deed == "snapshot":
            return (vol, chance.choice("stuv"))
        if deed in ("clone", "drop"):
            texts = [text for text in self.tables() if "@" in text or chance.random() < 0.1]
            text = chance.choice(sorted(texts) or ["a"])
            return (text, chance.choice("abcdef")) if deed == "clone" else (text,)
        if deed == "receive":
            return (chance.choice(list(self.streams)), chance.choice("abcdef"), chance.choice("wxyz"))
        return (vol,)


def root_told(pool, root):
    """All that looks tell of a root, in the form of Table.all()."""
    found, waiting = {}, ["/"]
    while waiting:
        path = waiting.pop()
        if told(pool, root, path)[0] == "file":
            _, _, links, length = told(pool, root, path)
            found[path] = (links, read(pool, root, path, 0, 56))
            assert len(found[path][1]) == length
        else:
            found[path] = names(pool, root, path)
            if path.count("/") < 6 or path == "/":
                waiting += [(path if path != "/" else "") + "/" + name for name in found[path]]
    return found


def pool_told(pool):
    """All that looks tell of a pool, in the form of Plain.all()."""
    book = pool.root.book
    texts = []
    for root in book.roots.values():
        vol = book.volumes[root.volume].name
        texts.append(vol if root.snap is None else f"{vol}@{root.snap}")
    return {text: root_told(pool, text) for text in texts}


def shape_of(standing):
    """The prev of each root, and the mark of each snapshot, in the form of Plain.shape()."""
    book = standing.book
    texts = {ident: book.volumes[root.volume].name + ("@" + root.snap if root.snap else "")
             for ident, root in book.roots.items()}
    marks = {ident: (texts[ident], root.mark) for ident, root in book.roots.items()}
    return {texts[ident]: marks[root.prev] if root.prev else None for ident, root in book.roots.items()}


def elder_told(pool):
    """What looks at the elder would tell, with its shape; None without one."""
    if pool.elder is None:
        return None
    return pool_told(Pool(pool.drives, pool.tag, pool.elder, None, pool.last)), shape_of(pool.elder)


def plain_told(volumes):
    """The same of what a Plain says of the elder."""
    if volumes is None:
        return None
    plain = Plain()
    plain.volumes = volumes
    return plain.all(), plain.shape()


def is_changed(pool, vol):
    """Whether the head of a volume is not what its prev is, behind the open deeds."""
    book = pool.root.book
    head = next(book.roots[volume.head] for volume in book.volumes.values() if volume.name == vol)
    is_written = pool.records_of(head) != pool.root.trees[head.ident].records
    return is_written or head.top != book.roots[head.prev].top


def some_fault(chance, drives, drive, kinds):
    """A fault of one of these kinds on a drive."""
    places = range(41 + drives.room)
    kind, place = chance.choice(kinds), chance.choice(places)
    if kind == "rot":
        good = [at for at in places if is_good(drives.cell(drive, at))]
        if good:
            rot(drives, drive, chance.choice(good), chance.randrange(5), chance.randint(1, 1000002))
    elif kind == "lose":
        lose(drives, drive, place)
    elif kind == "stray":
        stray(drives, drive, place, chance.choice(places))
    elif kind == "wipe" and chance.random() < 0.3:
        wipe(drives, drive)
    elif kind == "off":
        drives.turn(drive, not drives.is_on(drive))


class Story:
    """A row of deeds by chance on a pool and its plain telling; streams go round among the stories of one list."""

    def __init__(self, test, chance, drives, *, tag=0, streams=None):
        self.test, self.chance, self.drives = test, chance, drives
        self.pool, self.plain = made_pool(drives, tag=tag), Plain(tag)
        self.plain.streams = {} if streams is None else streams
        self.cuts, self.granted, self.refused = 0, {}, {}

    def expected(self, deed):
        told = self.plain.refusal(*deed)
        is_based = deed[0] == "receive" and deed[1][0][1:3] != (0, 0)
        if told is None and is_based and is_changed(self.pool, deed[2]):
            return ("Changed", deed[2])
        return told

    def one(self):
        """One deed by chance, granted or refused as it should be, or cut."""
        deed = self.plain.some_deed(self.chance)
        if self.chance.random() < 0.15:
            self.send()
        expected, before = self.expected(deed), all_seen(self.pool)
        by_room = room_refusal(self.pool, deed) if expected is None else None
        told = refusal(call, self.pool, *deed)
        if told == OFF:
            self.cut(deed)
        elif told is not None:
            self.test.assertEqual(told, expected or by_room, deed)
            self.refused[told[0]] = self.refused.get(told[0], 0) + 1
            self.test.assertEqual(all_seen(self.pool), before, deed)
        else:
            self.test.assertIsNone(expected or by_room, deed)
            self.plain.do(*deed)
            self.granted[deed[0]] = self.granted.get(deed[0], 0) + 1
            self.like()

    def like(self):
        """The pool is what the plain telling says."""
        pool, plain = self.pool, self.plain
        self.test.assertEqual((pool.root.number, pool.last, len(pool.opened)), (plain.number, plain.last, plain.opened))
        self.test.assertEqual(pool_told(pool), plain.all())

    def whole(self):
        """The same with its shape, its elder, and all that births and dead lists tell."""
        self.like()
        check_pool(self.test, self.pool)
        self.test.assertEqual(shape_of(self.pool.root), plain_told(self.plain.root)[1])
        self.test.assertEqual(elder_told(self.pool), plain_told(self.plain.elder))
        check_answers(self.test, self.pool)

    def send(self):
        """Take a stream of some snapshot, full or with a base above it."""
        book = self.pool.root.book
        snaps = [root for root in book.roots.values() if root.snap is not None]
        if not snaps:
            return
        if len(self.plain.streams) > 8:
            del self.plain.streams[self.chance.choice(list(self.plain.streams))]
        root = above = self.chance.choice(snaps)
        bases = [None]
        while above.prev:
            above = book.roots[above.prev]
            bases.append(above)
        base = self.chance.choice([*bases, *bases[1:2]])
        texts = [f"{book.volumes[it.volume].name}@{it.snap}" for it in (root, base) if it is not None]
        stream = sent(self.pool, texts[0], base=texts[1] if base else None)
        self.plain.streams[stream] = self.committed().tables()[texts[0]].twin()

    def committed(self):
        plain = Plain()
        plain.volumes = self.plain.root
        return plain

    def mount(self):
        """Mount anew, without a loss of power in a deed."""
        self.pool = self.mounted()
        self.plain.mounted(self.pool)
        self.whole()

    def mounted(self):
        while True:
            try:
                return mount(self.drives)
            except Refused as error:
                self.test.assertEqual((error.__class__.__name__, error.what), OFF)
                if self.chance.random() < 0.3:
                    self.drives.arm(self.chance.randint(1, 9), self.chance.randrange(3 ** 30))

    def cut(self, deed):
        """The power went in a deed: it counts wholly or not at all."""
        self.cuts += 1
        self.test.assertEqual(refusal(call, self.pool, *deed), OFF)
        before, after = self.plain, copy.deepcopy(self.plain)
        self.pool = self.mounted()
        # Only a deed that is granted writes, and only what writes can be cut.
        after.do(*deed)
        told = (pool_told(self.pool), shape_of(self.pool.root), elder_told(self.pool))
        found = []
        for plain in (after, before):
            plain.mounted(self.pool)
            if told == (plain.all(), plain.shape(), plain_told(plain.elder)):
                found.append(plain)
        self.test.assertTrue(found, deed)
        self.plain = found[0]
        self.whole()

