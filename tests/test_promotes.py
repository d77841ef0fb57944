import unittest

from bornroots.bookrows import book_numbers
from bornroots.commit import commit
from bornroots.desk import make_file, write
from bornroots.drops import drop
from bornroots.mount import mount
from bornroots.promotes import promote
from bornroots.roomtold import room, used
from bornroots.snapshots import clone, snapshot
from bornroots.volumes import destroy, make_volume, set_quota

from books import seen
from pools import check_pool, contents, example_pool, filled
from rawpool import check_answers
from refusals import refusal
from rootdeeds import NO_NAMES, Case


def clone_pool(own=""):
    """The pool of the example of 9 with a clone b of a@s, which has written, and these snapshots of its own."""
    pool = example_pool(written=True)
    clone(pool, "a@s", "b")
    write(pool, "b", "/f", 1, [6])
    commit(pool)
    for name in own:
        snapshot(pool, "b", name)
    return pool


def long_pool():
    """Volume a with the snapshots s, t, u; b is a clone of a@t, c one of b@x."""
    pool = example_pool(written=True)
    for name in "tu":
        snapshot(pool, "a", name)
        write(pool, "a", "/f", 3, [ord(name)])
        commit(pool)
    clone(pool, "a@t", "b")
    write(pool, "b", "/f", 0, [1])
    snapshot(pool, "b", "x")
    clone(pool, "b@x", "c")
    write(pool, "c", "/f", 0, [2])
    snapshot(pool, "c", "y")
    return pool


def chains(pool):
    """The texts of the roots of each volume, by its name."""
    book = pool.root.book
    told = {volume.name: [] for volume in book.volumes.values()}
    for root in sorted(book.roots.values(), key=lambda root: root.time or 2 ** 30):
        told[book.volumes[root.volume].name].append(root.snap)
    return told


class PromoteTest(Case):
    def test_the_example(self):
        pool = example_pool(written=True)
        clone(pool, "a@s", "b")
        self.refused(pool, ("Cloned", "a@s"), drop, "a@s")
        self.assertEqual((used(pool, "a"), used(pool, "b")), (12, 0))
        begun = pool.drives.begun()
        self.assertIsNone(promote(pool, "b"))
        self.assertEqual((used(pool, "a"), used(pool, "b"), pool.drives.begun() - begun), (5, 7, 2))
        self.assertEqual(chains(pool), {"a": [None], "b": ["s", None]})
        check_pool(self, pool)
        check_answers(self, pool)
        self.refused(pool, ("NotClone", "b"), promote, "b")
        promote(pool, "a")
        self.assertEqual((used(pool, "a"), used(pool, "b")), (12, 0))
        check_answers(self, pool)

    def test_only_the_volume_of_the_moved_roots_changes(self):
        pool = long_pool()
        before = seen(pool.root.book)
        used_cells = dict(pool.root.used)
        told = contents(pool)
        promote(pool, "b")
        after = seen(pool.root.book)
        self.assertEqual(after[:2], before[:2])
        moved = [ident for ident in before[2] if before[2][ident] != after[2][ident]]
        self.assertEqual([before[2][ident][2] for ident in sorted(moved)], ["s", "t"])
        for ident in moved:
            old, new = before[2][ident], after[2][ident]
            self.assertEqual((old[:1], old[2:], new[1]), (new[:1], new[2:], 5))
        self.assertEqual((pool.root.used, room(pool)[1]), (used_cells, 0))
        self.assertEqual(contents(pool), {{"a@s": "b@s", "a@t": "b@t"}.get(text, text): records
                                          for text, records in told.items()})
        check_pool(self, pool)
        check_answers(self, pool)
        self.assertEqual(contents(mount(pool.drives)), contents(pool))

    def test_there_and_back(self):
        for pool in (clone_pool(), clone_pool("xy"), long_pool()):
            before = seen(pool.root.book)
            promote(pool, "b")
            self.assertNotEqual(seen(pool.root.book), before)
            promote(pool, "a")
            self.assertEqual(seen(pool.root.book), before)
            check_pool(self, pool)

    def test_a_clone_of_a_clone(self):
        pool = long_pool()
        promote(pool, "c")
        self.assertEqual(chains(pool), {"a": ["s", "t", "u", None], "b": [None], "c": ["x", "y", None]})
        check_answers(self, pool)
        # Now c has the origin of b, and b is a clone of c.
        promote(pool, "c")
        self.assertEqual(chains(pool), {"a": ["u", None], "b": [None], "c": ["s", "t", "x", "y", None]})
        self.refused(pool, ("NotClone", "c"), promote, "c")
        check_answers(self, pool)
        promote(pool, "b")
        self.assertEqual(chains(pool), {"a": ["u", None], "b": ["s", "t", "x", None], "c": ["y", None]})
        promote(pool, "a")
        self.assertEqual(chains(pool), {"a": ["s", "t", "u", None], "b": ["x", None], "c": ["y", None]})
        check_answers(self, pool)

    def test_it_may_be_dropped_then(self):
        pool = long_pool()
        promote(pool, "b")
        drop(pool, "a@u")
        destroy(pool, "a")
        self.assertEqual(chains(pool), {"b": ["s", "t", "x", None], "c": ["y", None]})
        drop(pool, "b@t")
        check_answers(self, pool)

    def test_taken(self):
        for own, taken in (("s", "s"), ("ts", "s"), ("t", "t"), ("xt", "t"), ("u", None), ("xy", None)):
            pool = long_pool()
            clone(pool, "a@t", "d")
            for name in own:
                snapshot(pool, "d", name)
            self.assertEqual(refusal(promote, pool, "d"), taken and ("Taken", taken))
        # The first one by time is told, whatever the order of the names is.
        pool = example_pool(written=True)
        snapshot(pool, "a", "b")
        clone(pool, "a@b", "b")
        for name in "bs":
            snapshot(pool, "b", name)
        set_quota(pool, "b", 1)
        self.refused(pool, ("Taken", "s"), promote, "b")
        drop(pool, "b@s")
        self.refused(pool, ("Taken", "b"), promote, "b")
        # Another volume of that name, or a snapshot of a third one, takes nothing.
        drop(pool, "b@b")
        make_volume(pool, "s")
        snapshot(pool, "s", "s")
        set_quota(pool, "b", 0)
        promote(pool, "b")

    def test_quotas(self):
        for quota, expected in ((0, None), (12, None), (13, None), (1000, None), (11, ("Quota", "b")),
                                (5, ("Quota", "b"))):
            pool = clone_pool()
            self.assertEqual(used(pool, "b"), 5)
            set_quota(pool, "b", quota)
            # The quota of the other volume is never asked.
            set_quota(pool, "a", 12)
            if expected:
                self.refused(pool, expected, promote, "b")
            else:
                promote(pool, "b")
                self.assertEqual((used(pool, "b"), pool.root.book.volumes[3].quota), (12, quota))
                check_answers(self, pool)

    def test_the_least_quota(self):
        pool = example_pool(snap=True)
        clone(pool, "a@s", "b", quota=1)
        self.refused(pool, ("Quota", "b"), promote, "b")
        set_quota(pool, "b", 7)
        promote(pool, "b")

    def test_the_way_back_may_be_barred(self):
        pool = clone_pool()
        set_quota(pool, "a", 12)
        promote(pool, "b")
        set_quota(pool, "a", 5)
        self.refused(pool, ("Quota", "a"), promote, "a")
        set_quota(pool, "a", 12)
        promote(pool, "a")

    def test_refusals_in_their_order(self):
        pool = clone_pool()
        for name in NO_NAMES:
            self.refused(pool, ("BadName", name), promote, name)
        self.refused(pool, ("NoVolume", "c"), promote, "c")
        self.refused(pool, ("NotClone", "a"), promote, "a")
        snapshot(pool, "b", "s")
        set_quota(pool, "b", 5)
        self.refused(pool, ("Taken", "s"), promote, "b")
        drop(pool, "b@s")
        self.refused(pool, ("Quota", "b"), promote, "b")
        self.off(promote, "A")
        self.off(promote, "a")

    def test_of_a_full_book(self):
        pool = clone_pool()
        pool.root = filled(pool.root, 600)
        promote(pool, "b")
        self.assertEqual(len(book_numbers(pool.root.book)), 600)

    def test_behind_open_deeds(self):
        pool = clone_pool()
        write(pool, "b", "/f", 2, [7])
        make_file(pool, "a", "/h")
        # The use behind the open deeds counts, and so does that of the snapshots to come.
        promote(pool, "b")
        self.assertEqual((pool.root.number, pool.elder.number, pool.opened, used(pool, "b")), (9, 8, [], 12))
        check_pool(self, pool)
        check_answers(self, pool)
        for quota, many in ((12, 1), (11, 0)):
            pool = clone_pool()
            set_quota(pool, "b", quota)
            write(pool, "b", "/f", 2, [7])
            if many:
                promote(pool, "b")
            else:
                self.refused(pool, ("Quota", "b"), promote, "b")
                self.assertEqual(len(pool.opened), 1)
        self.refused_behind_open(("NotClone", "a"), promote, "a")
        self.refused_behind_open(("NoVolume", "b"), promote, "b")


if __name__ == "__main__":
    unittest.main()
