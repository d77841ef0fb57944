import unittest

from bornroots.commit import commit
from bornroots.desk import make_file, make_folder, write
from bornroots.drives import Drives
from bornroots.mount import made_pool, mount
from bornroots.salvage import salvage
from bornroots.snapshots import clone, snapshot
from bornroots.volumes import make_volume

from pools import all_seen, cells, example_pool
from refusals import refusal

FIRST = ((0, (2, 0)), (7, (6, 1)), (8, (1, 1, 0)))
SECOND = ((0, (2, 0)), (7, (6, 1)), (8, (1, 1, 1)), (9, (5, 0, 0, 0, 0, 0, 0, 0)))
# The cells of the example: the roots a and a@s share leaf 0 in 41, leaf 7 in 45 and node 0 in 46. Besides a has leaf 8
# in 42, leaf 9 in 43, node 1 in 44, the mid in 51, the top in 52; and a@s leaf 8 in 47, node 1 in 48, the mid in 49,
# the top in 50.


def without(pairs, *stretches):
    return tuple(pair for pair in pairs if not any(lo <= pair[0] <= hi for lo, hi in stretches))


class SalvageTest(unittest.TestCase):
    def check(self, lost, of_head, of_snap):
        pool = example_pool(many=2, written=True)
        for address in lost:
            for drive in (0, 1):
                pool.drives.lay(drive, address, ())
        pool.drives.cut()
        before = all_seen(pool)
        told = salvage(pool.drives)
        self.assertEqual(told, (("a", without(SECOND, *of_head), tuple(of_head)),
                                ("a@s", without(FIRST, *of_snap), tuple(of_snap))), lost)
        self.assertEqual(all_seen(pool), before)

    def test_nothing_lost(self):
        self.check([], [], [])

    def test_leaves_nodes_mids_and_tops(self):
        self.check([42], [(8, 8)], [])
        self.check([43], [(9, 9)], [])
        self.check([44], [(8, 15)], [])
        self.check([51], [(0, 63)], [])
        self.check([52], [(0, 511)], [])
        self.check([47], [], [(8, 8)])
        self.check([48], [], [(8, 15)])
        self.check([49], [], [(0, 63)])
        self.check([50], [], [(0, 511)])

    def test_blocks_that_both_have(self):
        self.check([41], [(0, 0)], [(0, 0)])
        self.check([45], [(7, 7)], [(7, 7)])
        self.check([46], [(0, 7)], [(0, 7)])

    def test_several(self):
        self.check([45, 43, 41], [(0, 0), (7, 7), (9, 9)], [(0, 0), (7, 7)])
        self.check([44, 46], [(0, 7), (8, 15)], [(0, 7)])
        self.check([50, 52], [(0, 511)], [(0, 511)])

    def test_beneath_a_lost_block_nothing_is_told(self):
        self.check([44, 42, 43], [(8, 15)], [])
        self.check([51, 44, 41], [(0, 63)], [(0, 0)])

    def test_a_block_on_one_drive_is_enough(self):
        pool = example_pool(many=2, written=True)
        for address in range(41, 53):
            pool.drives.lay(address % 2, address, ())
        self.assertEqual(salvage(pool.drives), (("a", SECOND, ()), ("a@s", FIRST, ())))

    def test_the_example(self):
        pool = example_pool(snap=True)
        write(pool, "a", "/f", 0, [5])
        pool.drives.arm(7, 2)
        self.assertEqual(refusal(commit, pool), ("Off", None))
        # The head of 5 is torn, and the log is not read.
        self.assertEqual(salvage(pool.drives), (("a", FIRST, ()), ("a@s", FIRST, ())))
        mount(pool.drives)
        self.assertEqual(salvage(pool.drives), (("a", SECOND, ()), ("a@s", FIRST, ())))

    def test_the_log_is_not_read(self):
        pool = example_pool()
        make_file(pool, "a", "/g")
        self.assertEqual(salvage(pool.drives), (("a", FIRST, ()),))

    def test_by_ident(self):
        pool = made_pool(Drives(1, 60))
        make_volume(pool, "b")
        make_volume(pool, "a")
        make_folder(pool, "a", "/f")
        snapshot(pool, "a", "t")
        snapshot(pool, "a", "s")
        clone(pool, "a@t", "c")
        with_folder = ((0, (2, 0)), (7, (6, 1)), (8, (2, 0)))
        self.assertEqual(salvage(pool.drives), (("b", ((0, (2, 0)),), ()), ("a", with_folder, ()),
                                                ("a@t", with_folder, ()), ("a@s", with_folder, ()),
                                                ("c", with_folder, ())))

    def test_a_pool_without_volumes(self):
        self.assertEqual(salvage(made_pool(Drives(1, 8)).drives), ())

    def test_no_pool(self):
        self.assertEqual(refusal(salvage, Drives(3, 8)), ("NoPool", 0))
        pool = example_pool(many=2)
        for drive in (0, 1):
            for place in (0, 12, 22):
                pool.drives.lay(drive, place, ())
        before = cells(pool.drives)
        self.assertEqual(refusal(salvage, pool.drives), ("NoPool", 0))
        self.assertEqual(cells(pool.drives), before)

    def test_an_older_head_if_the_last_one_is_lost(self):
        pool = example_pool(written=True)
        pool.drives.lay(0, 12, ())
        self.assertEqual(salvage(pool.drives), (("a", FIRST, ()), ("a@s", FIRST, ())))

    def test_while_a_pool_runs(self):
        pool = example_pool(written=True)
        before = all_seen(pool)
        salvage(pool.drives)
        self.assertEqual(all_seen(pool), before)
        pool.need_running()


if __name__ == "__main__":
    unittest.main()
