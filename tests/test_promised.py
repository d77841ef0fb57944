import unittest

from bornroots.commit import commit
from bornroots.desk import make_file, write
from bornroots.drives import Drives
from bornroots.mount import made_pool
from bornroots.promised import promised_rows
from bornroots.rows import fits
from bornroots.snapshots import clone, snapshot
from bornroots.volumes import destroy, make_volume

from pools import all_seen, example_pool

HEAD, PAGE, LOG, BRANCH, LEAF = 1, 2, 3, 4, 5


class PromisedTest(unittest.TestCase):
    def test_a_new_pool_has_no_elder(self):
        self.assertEqual(promised_rows(made_pool(Drives(1, 8))), [(0, HEAD, 1), (1, PAGE, 1)])

    def test_the_elder_counts(self):
        pool = made_pool(Drives(1, 8))
        make_volume(pool, "a")
        self.assertEqual(promised_rows(pool), [
            (0, HEAD, 1), (1, PAGE, 1), (11, HEAD, 2), (12, PAGE, 2), (41, LEAF, 2), (42, BRANCH, 2), (43, BRANCH, 2),
            (44, BRANCH, 2)])

    def test_the_example(self):
        pool = example_pool()
        self.assertEqual(promised_rows(pool), [
            (11, HEAD, 2), (12, PAGE, 2), (22, HEAD, 3), (23, PAGE, 3),
            (41, LEAF, 2), (42, BRANCH, 2), (43, BRANCH, 2), (44, BRANCH, 2), (45, LEAF, 3), (46, BRANCH, 3),
            (47, LEAF, 3), (48, BRANCH, 3), (49, BRANCH, 3), (50, BRANCH, 3)])
        pool.elder = None
        self.assertEqual(promised_rows(pool), [
            (22, HEAD, 3), (23, PAGE, 3), (41, LEAF, 2), (45, LEAF, 3), (46, BRANCH, 3), (47, LEAF, 3), (48, BRANCH, 3),
            (49, BRANCH, 3), (50, BRANCH, 3)])

    def test_open_deeds(self):
        pool = example_pool(snap=True)
        without = promised_rows(pool)
        for at in range(8):
            write(pool, "a", "/f", 0, [at])
            self.assertEqual(promised_rows(pool), sorted([*without, *[(33 + i, LOG, 4) for i in range(at + 1)]]))
        commit(pool)
        self.assertEqual([row for row in promised_rows(pool) if row[1] == LOG], [])

    def test_blocks_that_several_roots_share_are_told_once(self):
        pool = example_pool(snap=True)
        clone(pool, "a@s", "b")
        blocks = [row for row in promised_rows(pool) if row[0] > 40]
        self.assertEqual([row[0] for row in blocks], [41, 45, 46, 47, 48, 49, 50])
        commit(pool, always=True)
        self.assertEqual([row for row in promised_rows(pool) if row[0] > 40], blocks)

    def test_several_pages(self):
        pool = made_pool(Drives(1, 100))
        for name in "abcde":
            make_volume(pool, name)
        # 68 numbers are two pages; the 55 of the elder are one.
        self.assertEqual([row for row in promised_rows(pool) if row[0] < 33],
                         [(11, HEAD, 5), (12, PAGE, 5), (22, HEAD, 6), (23, PAGE, 6), (24, PAGE, 6)])
        destroy(pool, "e")
        self.assertEqual([row for row in promised_rows(pool) if row[0] < 33],
                         [(0, HEAD, 7), (1, PAGE, 7), (22, HEAD, 6), (23, PAGE, 6), (24, PAGE, 6)])

    def test_they_fit(self):
        pool = made_pool(Drives(3, 60))
        for vol in "ab":
            make_volume(pool, vol)
            make_file(pool, vol, "/x")
            snapshot(pool, vol, "s")
            write(pool, vol, "/x", 0, [1])
            for place, kind, number in promised_rows(pool):
                for drive in range(3):
                    self.assertTrue(fits(pool.drives.cell(drive, place), kind, place, number))

    def test_a_list_of_its_own(self):
        pool = example_pool(snap=True)
        before = all_seen(pool)
        rows = promised_rows(pool)
        kept = list(rows)
        self.assertTrue(all(isinstance(row, tuple) for row in rows))
        rows.clear()
        self.assertEqual((promised_rows(pool), all_seen(pool)), (kept, before))


if __name__ == "__main__":
    unittest.main()
