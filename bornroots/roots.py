"""Roots, volumes and the book of them (point 3 and the first paragraph of point 9 of the document)."""

from bornroots.errors import NoRoot, NoSnap, NoVolume, Taken
from bornroots.namecodes import need_name, root_text, root_words

NO_MARK = (0, 0)


class Root:
    """A root; it is never changed: what changes is a new Root in the book."""

    def __init__(self, ident, volume, snap, prev, time, mark, top, dead):
        self.ident = ident
        self.volume = volume
        self.snap = snap
        self.prev = prev
        self.time = time
        self.mark = tuple(mark)
        self.top = tuple(top)
        self.dead = tuple(dead)


class Volume:
    """A volume: its name, its quota, and the ident of its head."""

    def __init__(self, name, quota, head):
        self.name = name
        self.quota = quota
        self.head = head


class Book:
    """The next ident, the volumes by the idents of their heads, the roots by their idents."""

    def __init__(self):
        self.next_id = 1
        self.volumes = {}
        self.roots = {}

    def twin(self):
        """A book with dicts of its own and the same volumes and roots."""
        book = Book()
        book.next_id = self.next_id
        book.volumes = dict(self.volumes)
        book.roots = dict(self.roots)
        return book


def remade(root, *, volume=None, prev=None, top=None, dead=None):
    """A root like this one but for what is told."""
    return Root(root.ident, root.volume if volume is None else volume, root.snap,
                root.prev if prev is None else prev, root.time, root.mark,
                root.top if top is None else top, root.dead if dead is None else dead)


def add_volume(book, name, quota, prev, top):
    """Put a new volume and its head into a book, and tell the ident of both."""
    ident = book.next_id
    book.next_id = ident + 1
    book.volumes[ident] = Volume(name, quota, ident)
    book.roots[ident] = Root(ident, ident, None, prev, 0, NO_MARK, top, ())
    return ident


def add_snapshot(book, head, snap, time, mark):
    """Put a new snapshot between a head and its prev into a book, and tell its ident."""
    ident = book.next_id
    book.next_id = ident + 1
    book.roots[ident] = Root(ident, head.ident, snap, head.prev, time, mark, head.top, head.dead)
    book.roots[head.ident] = remade(head, prev=ident, dead=())
    return ident


def need_untaken_name(book, name):
    """Raise Taken(name) if a volume of the book has this name."""
    if name in [volume.name for volume in book.volumes.values()]:
        raise Taken(name)


def need_untaken_snap(book, volume, snap):
    """Raise Taken(snap) if a snapshot of the volume has this name."""
    if snap in [root.snap for root in chain_of(book, volume)]:
        raise Taken(snap)


def head_of_volume(book, name):
    """The head of the volume of this name, a Root."""
    return book.roots[volume_named(book, name).head]


def volume_named(book, name):
    """The volume of this name."""
    need_name(name)
    for head in book.volumes:
        if book.volumes[head].name == name:
            return book.volumes[head]
    raise NoVolume(name)


def root_named(book, text):
    """The root of this text."""
    vol, snap = root_words(text)
    for root in chain_of(book, volume_named(book, vol)):
        if root.snap == snap:
            return root
    raise NoRoot(text)


def snap_named(book, text):
    """The snapshot of this text."""
    root = root_named(book, text)
    need_snap(root, text)
    return root


def need_snap(root, text):
    """Raise NoSnap(text) if the root, the text of which was handed in, is a head."""
    if root.snap is None:
        raise NoSnap(text)


def text_of(book, root):
    """The text of a root."""
    return root_text(book.volumes[root.volume].name, root.snap)


def chain_of(book, volume):
    """The list of the roots of a volume: its snapshots by time, its head last."""
    roots = [root for root in book.roots.values() if root.volume == volume.head]
    snaps = sorted([root for root in roots if root.snap is not None], key=lambda root: root.time)
    return [*snaps, book.roots[volume.head]]


def origin_of(book, volume):
    """The snapshot of another volume from which a volume was made, or None."""
    return book.roots.get(chain_of(book, volume)[0].prev)


def children_of(book, root):
    """The list of the roots that were made from a root, by ident."""
    return [book.roots[ident] for ident in sorted(book.roots) if book.roots[ident].prev == root.ident]


def edge_of(book, root):
    """The time of the root from which a root was made, 0 without one."""
    return 0 if root.prev == 0 else book.roots[root.prev].time
