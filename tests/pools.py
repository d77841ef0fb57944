"""Pools for tests, made without the deeds of later modules, and a plain check of what a pool keeps to."""

from bornroots.bookrows import book_numbers
from bornroots.commit import commit, do_roots, put_step
from bornroots.deedlog import put_log
from bornroots.deedsdata import with_values
from bornroots.deedsmake import with_file
from bornroots.drives import Drives
from bornroots.namecodes import name_of
from bornroots.plan import Step, book_step, content_step
from bornroots.roots import Book, Root, Volume, volume_named
from bornroots.sound import is_sound
from bornroots.space import Standing
from bornroots.state import Pool
from bornroots.treeplan import Tree
from bornroots.treewalk import walked

from books import seen


def new_pool(many=1, room=40, tag=7):
    drives = Drives(many, room)
    drives.start()
    first = Standing(1, 0, 0, Book(), {}, {})
    put_step(drives, tag, Step(first, []))
    return Pool(drives, tag, first, None, 1)


def with_new_head(standing, name, quota=0):
    """(Standing, ident) with a new volume without records."""
    book = standing.book.twin()
    ident = book.next_id
    book.next_id += 1
    book.volumes[ident] = Volume(name, quota, ident)
    book.roots[ident] = Root(ident, ident, None, 0, 0, (0, 0), (0, 0), ())
    trees = {**standing.trees, ident: Tree({}, {})}
    return Standing(standing.number, standing.area, standing.ahead, book, trees, standing.used), ident


def put_volume(pool, name, quota=0, records=None):
    """Make a volume with these records by one transaction, and tell the ident of its head."""
    def make(standing, elder, last):
        begun, ident = with_new_head(standing, name, quota)
        return content_step(begun, elder, last, pool.drives.room, {ident: records or {0: (2, 0)}})
    return do_roots(pool, make).book.next_id - 1


def put_quota(pool, vol, quota):
    def make(standing, elder, last):
        book = standing.book.twin()
        head = volume_named(book, vol).head
        book.volumes[head] = Volume(vol, quota, head)
        return book_step(standing, last, book, standing.trees, [])
    do_roots(pool, make)


def put_snapshot(pool, vol, snap):
    """Make a snapshot of a volume, and tell its ident."""
    def make(standing, elder, last):
        book = standing.book.twin()
        head = book.roots[volume_named(book, vol).head]
        ident, number = book.next_id, last + 1
        book.next_id += 1
        book.roots[ident] = Root(ident, head.ident, snap, head.prev, number, (pool.tag, number), head.top, head.dead)
        book.roots[head.ident] = Root(head.ident, head.ident, None, ident, 0, (0, 0), head.top, ())
        trees = {**standing.trees, ident: standing.trees[head.ident]}
        return book_step(standing, last, book, trees, [])
    return do_roots(pool, make).book.next_id - 1


def head_root(pool, vol):
    return pool.root.book.roots[volume_named(pool.root.book, vol).head]


def open_deed(pool, vol, deed, *given):
    """Open a deed on records without judging its room."""
    head = head_root(pool, vol)
    old = pool.records_of(head)
    new = deed(old, *given)
    new = new[0] if isinstance(new, tuple) else new
    put_log(pool, head.ident, old, new)
    pool.opened.append((head.ident, new))


def example_pool(many=1, snap=False, written=False):
    """The pool of the examples of 7.4 (transaction 3), of 8.5 with snap (4), of 9 with written (5)."""
    pool = new_pool(many)
    put_volume(pool, "a")
    open_deed(pool, "a", with_file, "/f")
    commit(pool)
    if snap or written:
        put_snapshot(pool, "a", "s")
    if written:
        open_deed(pool, "a", with_values, "/f", 0, [5])
        commit(pool)
    return pool


def filled(standing, numbers):
    """The standing with more volumes and snapshots, so that its book has just so many numbers."""
    book, trees = standing.book.twin(), dict(standing.trees)
    rest = numbers - len(book_numbers(book))
    many = 1 if rest % 2 == 1 else 2
    first = book.next_id
    for at in range(many):
        book.volumes[first + at] = Volume(name_of(600 + at), 0, first + at)
        book.roots[first + at] = Root(first + at, first + at, None, 0, 0, (0, 0), (0, 0), ())
    snaps, pairs = divmod(rest - 13 * many, 10)
    for at in range(snaps):
        ident = first + many + at
        dead = [(41, 1)] * (pairs // 2) if at == 0 else ()
        book.roots[ident] = Root(ident, first, name_of(600 + at), 0, at + 1, (7, at + 1), (0, 0), dead)
    book.next_id = first + many + snaps
    trees.update({ident: Tree({}, {}) for ident in book.roots if ident not in trees})
    told = Standing(standing.number, standing.area, standing.ahead, book, trees, standing.used)
    assert len(book_numbers(told.book)) == numbers
    return told


class Told:
    """Drives that tell what is asked of them: (place, row) of each put, "flush" of each flush."""

    def __init__(self, drives):
        self.lines = []
        self.put_row, self.flush_all = drives.put, drives.flush
        drives.put, drives.flush = self.put, self.flush

    def put(self, place, row, *, only=None):
        self.lines.append((place, row) if only is None else (place, row, only))
        self.put_row(place, row, only=only)

    def flush(self):
        self.lines.append("flush")
        self.flush_all()


def cells(drives):
    """All that the drives show."""
    return [[drives.cell(drive, place) for place in range(41 + drives.room)] for drive in range(drives.many)]


def standing_seen(standing):
    """All that stands in a Standing, to compare."""
    if standing is None:
        return None
    trees = {ident: (dict(tree.places), dict(tree.records)) for ident, tree in standing.trees.items()}
    return (standing.number, standing.area, standing.ahead, seen(standing.book), trees, dict(standing.used))


def pool_seen(pool):
    """All that a pool knows, to compare."""
    opened = [(head, dict(records)) for head, records in pool.opened]
    return (pool.tag, pool.owner, standing_seen(pool.root), standing_seen(pool.elder), pool.last, opened)


def all_seen(pool):
    """All that a refusal must leave as it is."""
    drives = pool.drives
    return (pool_seen(pool), cells(drives), drives.begun(), drives.pending(), drives.has_power(), drives.owner())


def contents(pool):
    """The records of each root, by its name, as looks see them."""
    book = pool.root.book
    told = {}
    for root in book.roots.values():
        vol = book.volumes[root.volume].name
        told[vol if root.snap is None else f"{vol}@{root.snap}"] = pool.records_of(root)
    return told


def check_standing(test, drives, standing):
    """What each transaction keeps to, told by walks over its trees alone."""
    test.assertEqual(sorted(standing.trees), sorted(standing.book.roots))
    used, pairs = {}, {}
    for ident, root in standing.book.roots.items():
        tree, lost = walked(drives, root.top)
        test.assertEqual(lost, [])
        test.assertEqual((tree.places, tree.records), (standing.trees[ident].places, standing.trees[ident].records))
        test.assertTrue(is_sound(tree.records))
        pairs[ident] = sorted(tree.places.values())
        used.update(dict(pairs[ident]))
    test.assertEqual(standing.used, used)
    for ident, root in standing.book.roots.items():
        if root.prev == 0:
            test.assertEqual(root.dead, ())
        else:
            edge = standing.book.roots[root.prev].time
            ahead = pairs[root.prev]
            test.assertEqual(list(root.dead), [pair for pair in ahead if pair not in pairs[ident]])
            test.assertEqual([pair for pair in pairs[ident] if pair[1] <= edge],
                             [pair for pair in pairs[ident] if pair in ahead])


def check_pool(test, pool):
    """What a pool keeps to behind each deed."""
    check_standing(test, pool.drives, pool.root)
    test.assertLessEqual(pool.root.number, pool.last)
    if pool.elder is not None:
        check_standing(test, pool.drives, pool.elder)
        test.assertEqual(pool.root.ahead, pool.elder.number)
        test.assertEqual(pool.root.area, (pool.elder.area + 1) % 3)
    for i in range(len(pool.opened)):
        test.assertIsNotNone(pool.drives.fitting(3, 33 + i, pool.root.number))
    for ident, records in pool.opened:
        test.assertTrue(is_sound(records))
        test.assertIn(ident, pool.root.book.volumes)
