import unittest

from bornroots.bookrows import book_numbers
from bornroots.commit import commit
from bornroots.desk import make_file, write
from bornroots.drives import Drives
from bornroots.faults import rot, stray, wipe
from bornroots.headrows import head_row, page_rows
from bornroots.heads import heads_found, last_number, standing_at
from bornroots.mount import made_pool
from bornroots.rows import half_of, made_row
from bornroots.snapshots import snapshot
from bornroots.space import Standing
from bornroots.volumes import make_volume

from pools import all_seen, example_pool, standing_seen


def spoilt(drives, drive, place, how):
    """Make a cell hold what does not fit it any more."""
    row = drives.cell(drive, place)
    if how == "rotted":
        rot(drives, drive, place, 2, 1)
    else:
        drives.lay(drive, place, {"torn": half_of(row), "gone": (), "of another": made_row(
            row[0], row[1], row[2] - 1, row[4:-1])}[how])


HOWS = ("rotted", "torn", "gone", "of another")


class FoundTest(unittest.TestCase):
    def test_by_number_descending(self):
        pool = made_pool(Drives(1, 40))
        self.assertEqual(heads_found(pool.drives), [(1, 0)])
        make_volume(pool, "a")
        self.assertEqual(heads_found(pool.drives), [(2, 1), (1, 0)])
        make_volume(pool, "b")
        self.assertEqual(heads_found(pool.drives), [(3, 2), (2, 1), (1, 0)])
        commit(pool, always=True)
        self.assertEqual(heads_found(pool.drives), [(4, 0), (3, 2), (2, 1)])

    def test_nothing_at_all(self):
        self.assertEqual(heads_found(Drives(3, 8)), [])

    def test_each_once(self):
        pool = made_pool(Drives(3, 40))
        make_volume(pool, "a")
        self.assertEqual(heads_found(pool.drives), [(2, 1), (1, 0)])

    def test_head_and_pages_on_unlike_drives(self):
        pool = made_pool(Drives(3, 60))
        for name in "abcde":
            make_volume(pool, name)
        drives = pool.drives
        self.assertEqual(heads_found(drives), [(6, 2), (5, 1), (4, 0)])
        # The head of 6 is left on drive 0, its first page on 1, its second on 2.
        for place, kept in ((22, 0), (23, 1), (24, 2)):
            for drive in range(3):
                if drive != kept:
                    spoilt(drives, drive, place, HOWS[(place + drive) % 4])
        self.assertEqual(heads_found(drives), [(6, 2), (5, 1), (4, 0)])
        drives.turn(0, False)
        self.assertEqual(heads_found(drives)[0], (6, 2))
        told, lost = standing_at(drives, 6, 2)
        self.assertEqual((standing_seen(told), lost), (standing_seen(pool.root), None))

    def test_a_head_or_page_that_fits_nowhere(self):
        for place in (22, 23, 24):
            for how in HOWS:
                pool = made_pool(Drives(2, 60))
                for name in "abcde":
                    make_volume(pool, name)
                spoilt(pool.drives, 0, place, how)
                self.assertEqual(heads_found(pool.drives)[0], (6, 2))
                spoilt(pool.drives, 1, place, how)
                self.assertEqual(heads_found(pool.drives), [(5, 1), (4, 0)])

    def test_unlike_heads_of_one_area(self):
        pool = example_pool(many=2)
        drives = pool.drives
        commit(pool, always=True)
        # Drive 1 misses the transactions 5 to 7: its areas hold the heads of 2 to 4.
        drives.turn(1, False)
        for _ in range(3):
            commit(pool, always=True)
        self.assertEqual(heads_found(drives), [(7, 0), (6, 2), (5, 1), (4, 0), (3, 2), (2, 1)])
        spoilt(drives, 0, 1, "rotted")
        self.assertEqual(heads_found(drives), [(6, 2), (5, 1), (4, 0), (3, 2), (2, 1)])
        self.assertEqual(standing_at(drives, 4, 0)[0].number, 4)
        self.assertEqual(standing_at(drives, 2, 1)[0].number, 2)

    def test_a_head_in_the_cell_of_another_area(self):
        drives = Drives(1, 8)
        drives.lay(0, 11, head_row(0, 5, 7, 1, 8, 4, 1)[1])
        for place, row in page_rows(0, 5, (1, 0, 0)):
            drives.lay(0, place, row)
        self.assertEqual(heads_found(drives), [])
        drives.lay(0, 0, head_row(0, 5, 7, 1, 8, 4, 1)[1])
        self.assertEqual(heads_found(drives), [(5, 0)])

    def test_a_list_of_its_own(self):
        pool = example_pool()
        told, before = heads_found(pool.drives), all_seen(pool)
        kept = list(told)
        self.assertIsInstance(told[0], tuple)
        told.clear()
        self.assertEqual((heads_found(pool.drives), all_seen(pool)), (kept, before))


class LastTest(unittest.TestCase):
    def test_empty_drives(self):
        self.assertEqual(last_number(Drives(3, 8)), 0)

    def test_of_a_pool(self):
        pool = example_pool(many=2)
        self.assertEqual(last_number(pool.drives), 3)
        pool.drives.turn(0, False)
        commit(pool, always=True)
        self.assertEqual(last_number(pool.drives), 4)

    def test_any_good_row_of_any_cell(self):
        for row in (made_row(5, 41, 9, ()), made_row(5, 42, 9, (1,)), made_row(3, 33, 9, (0, 1, 0)),
                    made_row(2, 1, 9, (1, 0, 0)), made_row(1, 0, 9, (7, 1, 40, 8, 10)), made_row(4, 80, 9, (0,) * 16),
                    made_row(999, 999, 9, (1, 2))):
            for drive, place in ((0, 0), (1, 0), (0, 80), (1, 80), (0, 32), (1, 40)):
                pool = example_pool(many=2)
                pool.drives.lay(drive, place, row)
                self.assertEqual(last_number(pool.drives), 9)
                pool.drives.lay(drive, place, half_of(row))
                self.assertEqual(last_number(pool.drives), 3)
                pool.drives.lay(drive, place, (*row[:-1], (row[-1] + 1) % 1000003))
                self.assertEqual(last_number(pool.drives), 3)
                pool.drives.lay(drive, place, (*row[:3], 0, *row[4:]) if row[3] else (*row[:3], 1, row[4]))
                self.assertEqual(last_number(pool.drives), 3)

    def test_a_strayed_row_and_the_pages_of_a_head_that_was_lost(self):
        pool = example_pool()
        stray(pool.drives, 0, 11 * 0, 70)
        pool.drives.arm(2, 0)
        commit_off(pool)
        self.assertEqual((last_number(pool.drives), heads_found(pool.drives)[0]), (4, (3, 2)))
        pool = example_pool()
        pool.drives.arm(2, 3 ** 9 // 2)
        commit_off(pool)
        self.assertEqual((last_number(pool.drives), heads_found(pool.drives)[0]), (4, (3, 2)))


def commit_off(pool):
    """A commit during which the power goes."""
    try:
        commit(pool, always=True)
    except ValueError:
        pass


class StandingTest(unittest.TestCase):
    def test_whole_ones(self):
        pool = example_pool(many=2, written=True)
        for standing in (pool.root, pool.elder):
            told = standing_at(pool.drives, standing.number, standing.area)
            self.assertIsInstance(told, tuple)
            self.assertIsInstance(told[0], Standing)
            self.assertEqual((standing_seen(told[0]), told[1]), (standing_seen(standing), None))

    def test_the_empty_one(self):
        pool = made_pool(Drives(1, 8))
        told, lost = standing_at(pool.drives, 1, 0)
        self.assertEqual((standing_seen(told), lost), (standing_seen(pool.root), None))
        self.assertEqual((told.ahead, book_numbers(told.book)), (0, (1, 0, 0)))

    def test_number_ahead(self):
        pool = example_pool()
        pool.last = 8
        commit(pool, always=True)
        told, _ = standing_at(pool.drives, 9, 0)
        self.assertEqual((told.number, told.area, told.ahead), (9, 0, 3))

    def test_blocks_on_unlike_drives(self):
        pool = example_pool(many=3, written=True)
        for place in range(41, 53):
            for drive in range(3):
                if drive != place % 3:
                    spoilt(pool.drives, drive, place, HOWS[place % 4])
        for standing in (pool.root, pool.elder):
            told, _ = standing_at(pool.drives, standing.number, standing.area)
            self.assertEqual(standing_seen(told), standing_seen(standing))

    def test_a_lost_block(self):
        for how in HOWS:
            for address in range(41, 53):
                pool = example_pool(many=2, written=True)
                spoilt(pool.drives, 0, address, how)
                self.assertEqual(standing_at(pool.drives, 5, 1)[1], None)
                spoilt(pool.drives, 1, address, how)
                self.assertEqual(standing_at(pool.drives, 5, 1), (None, address))
                told = standing_at(pool.drives, 4, 0)
                self.assertEqual(told == (None, address), address in pool.elder.used)

    def test_the_least_lost_address_of_all_trees(self):
        for lost, least in (((), None), ((50, 52), 50), ((42, 43, 44), 44), ((51, 45), 45), ((49, 48), 49),
                            ((44, 51), 51), ((52, 41), 41), ((42, 43), 42)):
            other = example_pool(written=True)
            for address in lost:
                spoilt(other.drives, 0, address, "gone")
            self.assertEqual(standing_at(other.drives, 5, 1)[1], least, lost)

    def test_beneath_a_lost_block_nothing_is_looked_at(self):
        pool = example_pool()
        # The mid is in cell 49 and the top in 50; leaf 0, in cell 41, lies beneath both.
        spoilt(pool.drives, 0, 49, "gone")
        spoilt(pool.drives, 0, 41, "gone")
        self.assertEqual(standing_at(pool.drives, 3, 2), (None, 49))
        spoilt(pool.drives, 0, 50, "gone")
        self.assertEqual(standing_at(pool.drives, 3, 2), (None, 50))
        self.assertEqual(standing_at(pool.drives, 2, 1), (None, 41))

    def test_nothing_is_written_and_no_power_is_needed(self):
        pool = made_pool(Drives(2, 60))
        make_volume(pool, "a")
        make_file(pool, "a", "/f")
        snapshot(pool, "a", "s")
        write(pool, "a", "/f", 0, [1])
        wipe(pool.drives, 0)
        pool.drives.cut()
        before = all_seen(pool)
        self.assertEqual(heads_found(pool.drives), [(4, 0), (3, 2), (2, 1)])
        self.assertEqual(last_number(pool.drives), 4)
        self.assertEqual(standing_at(pool.drives, 4, 0)[0].number, 4)
        self.assertEqual(all_seen(pool), before)


if __name__ == "__main__":
    unittest.main()
