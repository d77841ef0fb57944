import unittest

from bornroots.drives import Drives
from bornroots.faults import lose, rot, stray, wipe
from bornroots.mends import mend
from bornroots.promised import promised_rows
from bornroots.rows import made_row

from drivesmodel import leaf
from pools import cells, example_pool
from refusals import OFF, refusal

ROWS = [(41, 5, 2), (42, 5, 2), (43, 5, 3)]


def drives_with(many, *laid):
    """Drives of which each that is told as (drive, place) has the leaf of ROWS in that place."""
    drives = Drives(many, 8)
    drives.start()
    numbers = {place: number for place, _, number in ROWS}
    for drive, place in laid:
        drives.lay(drive, place, leaf(place, numbers[place], drive))
    return drives


def flushes_of(drives):
    """A list that gets what is pending at each flush."""
    told, flush_all = [], drives.flush

    def flush():
        told.append([line[:2] for line in drives.pending()])
        flush_all()
    drives.flush = flush
    return told


class MendTest(unittest.TestCase):
    def test_one_goal(self):
        drives = drives_with(2, (0, 41), (0, 42), (1, 42), (0, 43))
        flushes = flushes_of(drives)
        told = mend(drives, ROWS, (1,), (0,))
        self.assertEqual((told, flushes), ([(41, 1), (43, 1)], [[(1, 41), (1, 43)]]))
        self.assertEqual((drives.cell(1, 41), drives.cell(1, 42), drives.cell(1, 43)),
                         (leaf(41, 2, 0), leaf(42, 2, 1), leaf(43, 3, 0)))
        self.assertEqual((drives.begun(), drives.pending()), (2, []))

    def test_goals_ascending_within_places_ascending(self):
        drives = drives_with(3, (1, 41), (0, 42), (2, 43))
        every = (0, 1, 2)
        self.assertEqual(mend(drives, ROWS, every, every), [(41, 0), (41, 2), (42, 1), (42, 2), (43, 0), (43, 1)])
        for drive in every:
            self.assertEqual([drives.cell(drive, place) for place in (41, 42, 43)],
                             [leaf(41, 2, 1), leaf(42, 2, 0), leaf(43, 3, 2)])
        drives = drives_with(3, (1, 41), (0, 42), (2, 43))
        self.assertEqual(mend(drives, ROWS, (2, 0), (2, 1, 0)), [(41, 0), (41, 2), (42, 2), (43, 0)])

    def test_rows_in_another_order(self):
        drives = drives_with(2, (0, 41), (0, 42), (0, 43))
        self.assertEqual(mend(drives, [ROWS[1], ROWS[2], ROWS[0]], (1,), (0,)), [(41, 1), (42, 1), (43, 1)])

    def test_the_least_source(self):
        drives = drives_with(3, (1, 41), (2, 41))
        mend(drives, ROWS, (0,), (2, 1))
        self.assertEqual(drives.cell(0, 41), leaf(41, 2, 1))
        drives = drives_with(3, (1, 41), (2, 41))
        mend(drives, ROWS, (0,), (0, 2))
        self.assertEqual(drives.cell(0, 41), leaf(41, 2, 2))

    def test_only_the_sources_are_asked(self):
        drives = drives_with(3, (1, 41), (2, 42))
        self.assertEqual(mend(drives, ROWS, (0,), (2,)), [(42, 0)])
        self.assertEqual(drives.cell(0, 41), ())
        self.assertEqual(mend(drives, ROWS, (0,), ()), [])
        self.assertEqual(mend(drives, ROWS, (), (0, 1, 2)), [])

    def test_rows_that_fit_nowhere_stay_away(self):
        drives = drives_with(2, (0, 41))
        drives.lay(0, 42, leaf(42, 3))
        drives.lay(0, 43, leaf(42, 3))
        self.assertEqual(mend(drives, ROWS, (1,), (0, 1)), [(41, 1)])
        self.assertEqual((drives.cell(1, 42), drives.cell(1, 43)), ((), ()))

    def test_what_does_not_fit_is_mended(self):
        for other in ((), leaf(41, 2, 0)[:3], leaf(41, 3, 0), leaf(42, 2, 0), made_row(4, 41, 2, (0,)),
                      (*leaf(41, 2, 0)[:-1], 1)):
            drives = drives_with(2, (0, 41))
            drives.lay(1, 41, other)
            self.assertEqual(mend(drives, ROWS, (0, 1), (0, 1)), [(41, 1)])
            self.assertEqual(drives.cell(1, 41), leaf(41, 2, 0))

    def test_nothing_to_mend_is_no_flush(self):
        drives = drives_with(2, (0, 41), (1, 41))
        flushes = flushes_of(drives)
        self.assertEqual((mend(drives, ROWS, (0, 1), (0, 1)), mend(drives, [], (0, 1), (0, 1))), ([], []))
        self.assertEqual((flushes, drives.begun()), ([], 0))

    def test_drives_that_are_off_may_be_named(self):
        drives = drives_with(2, (0, 41))
        drives.turn(1, False)
        self.assertEqual(mend(drives, ROWS, (1,), (0,)), [(41, 1)])
        self.assertEqual(drives.cell(1, 41), leaf(41, 2, 0))
        drives.turn(0, False)
        drives.turn(1, True)
        drives.lay(1, 41, ())
        self.assertEqual(mend(drives, ROWS, (1,), (0,)), [(41, 1)])

    def test_a_row_that_is_lost_or_strays_is_told_all_the_same(self):
        drives = drives_with(2, (0, 41), (0, 42), (0, 43))
        lose(drives, 1, 41)
        stray(drives, 1, 42, 43)
        # The strayed row stands in 43 when its turn comes, and does not fit there.
        self.assertEqual(mend(drives, ROWS, (1,), (0,)), [(41, 1), (42, 1), (43, 1)])
        self.assertEqual([drives.cell(1, place) for place in (41, 42, 43)], [(), (), leaf(43, 3, 0)])
        self.assertEqual(mend(drives, ROWS, (1,), (0,)), [(41, 1), (42, 1)])

    def test_a_strayed_row_may_take_another_away_behind_its_turn(self):
        drives = drives_with(2, (0, 41), (0, 42), (0, 43), (1, 41))
        stray(drives, 1, 43, 41)
        self.assertEqual(mend(drives, ROWS, (1,), (0,)), [(42, 1), (43, 1)])
        self.assertEqual(mend(drives, ROWS, (1,), (0,)), [(41, 1), (43, 1)])

    def test_without_power(self):
        drives = drives_with(2, (0, 41))
        drives.cut()
        self.assertEqual(mend(drives, ROWS[1:], (0, 1), (0, 1)), [])
        self.assertEqual(refusal(mend, drives, ROWS, (0, 1), (0, 1)), OFF)

    def test_a_pool_and_a_wiped_drive(self):
        pool = example_pool(many=2, written=True)
        before, rows = cells(pool.drives), promised_rows(pool)
        wipe(pool.drives, 0)
        self.assertEqual(mend(pool.drives, rows, (0,), (1,)), [(place, 0) for place, _, _ in rows])
        places = [row[0] for row in rows]
        self.assertEqual(cells(pool.drives)[0], [row if at in places else () for at, row in enumerate(before[0])])
        rot(pool.drives, 1, 45, 0, 1)
        self.assertEqual(mend(pool.drives, rows, (0, 1), (0, 1)), [(45, 1)])

    def test_what_is_handed_in_stays(self):
        drives, rows = drives_with(2, (0, 41), (0, 43)), list(ROWS)
        told = mend(drives, rows, (1,), (0,))
        self.assertIsInstance(told, list)
        told.clear()
        self.assertEqual(rows, ROWS)
        self.assertEqual(mend(drives, rows, (1,), (0,)), [])


if __name__ == "__main__":
    unittest.main()
