import unittest

from bornroots.deedsdata import with_values
from bornroots.deedsmake import with_file, with_folder
from bornroots.drives import Drives
from bornroots.roots import Book
from bornroots.space import Standing
from bornroots.state import Pool

from pools import example_pool, head_root, open_deed, put_snapshot, put_volume
from refusals import OFF, refusal


class PoolTest(unittest.TestCase):
    def test_fields(self):
        drives = Drives(2, 8)
        drives.start()
        drives.start()
        root, elder = Standing(3, 2, 2, Book(), {}, {}), Standing(2, 1, 1, Book(), {}, {})
        pool = Pool(drives, 999, root, elder, 7)
        self.assertIs(pool.drives, drives)
        self.assertIs(pool.root, root)
        self.assertIs(pool.elder, elder)
        self.assertEqual((pool.tag, pool.owner, pool.last, pool.opened), (999, 2, 7, []))
        self.assertIsNone(Pool(drives, 0, root, None, 3).elder)

    def test_pools_are_equal_only_to_themselves(self):
        pool = example_pool()
        self.assertNotEqual(pool, Pool(pool.drives, 7, pool.root, pool.elder, 3))
        self.assertIsNot(pool.opened, Pool(pool.drives, 7, pool.root, pool.elder, 3).opened)

    def test_need_running(self):
        pool = example_pool()
        self.assertIsNone(pool.need_running())

    def test_behind_a_cut(self):
        pool = example_pool()
        pool.drives.cut()
        self.assertEqual(refusal(pool.need_running), OFF)

    def test_behind_a_later_start(self):
        for cut in (True, False):
            pool = example_pool()
            if cut:
                pool.drives.cut()
            pool.drives.start()
            self.assertEqual(refusal(pool.need_running), OFF)
            later = Pool(pool.drives, 7, pool.root, pool.elder, 3)
            self.assertIsNone(later.need_running())
            self.assertEqual(refusal(pool.need_running), OFF)

    def test_made_without_power(self):
        drives = Drives(1, 8)
        pool = Pool(drives, 0, Standing(1, 0, 0, Book(), {}, {}), None, 1)
        self.assertEqual(refusal(pool.need_running), OFF)
        drives.start()
        self.assertEqual(refusal(pool.need_running), OFF)


class RecordsTest(unittest.TestCase):
    def test_heads_and_snapshots(self):
        pool = example_pool(written=True)
        first = {0: (2, 0), 7: (6, 1), 8: (1, 1, 0)}
        second = {**first, 8: (1, 1, 1), 9: (5, 0, 0, 0, 0, 0, 0, 0)}
        self.assertEqual(pool.records_of(pool.root.book.roots[1]), second)
        self.assertEqual(pool.records_of(pool.root.book.roots[2]), first)

    def test_open_deeds_are_seen_by_their_own_head_alone(self):
        pool = example_pool(snap=True)
        other = put_volume(pool, "b")
        put_snapshot(pool, "b", "s")
        snaps = [root for root in pool.root.book.roots.values() if root.snap is not None]
        before = [pool.records_of(root) for root in snaps]
        open_deed(pool, "a", with_values, "/f", 0, [5])
        open_deed(pool, "b", with_folder, "/d")
        open_deed(pool, "a", with_values, "/f", 1, [6])
        self.assertEqual(pool.records_of(head_root(pool, "a"))[9], (5, 6, 0, 0, 0, 0, 0, 0))
        self.assertEqual(pool.records_of(pool.root.book.roots[other]), {0: (2, 0), 5: (4, 1), 8: (2, 0)})
        open_deed(pool, "b", with_file, "/d/f")
        self.assertEqual(len(pool.records_of(pool.root.book.roots[other])), 5)
        self.assertEqual(pool.records_of(head_root(pool, "a"))[9], (5, 6, 0, 0, 0, 0, 0, 0))
        self.assertEqual([pool.records_of(root) for root in snaps], before)

    def test_a_spoilt_dict_changes_nothing(self):
        pool = example_pool(snap=True)
        for _ in range(2):
            for root in pool.root.book.roots.values():
                told = pool.records_of(root)
                kept = dict(told)
                told.clear()
                self.assertEqual(pool.records_of(root), kept)
            open_deed(pool, "a", with_values, "/f", 0, [5])


if __name__ == "__main__":
    unittest.main()
