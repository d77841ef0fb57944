import random
import unittest

from bornroots.deedlog import has_log, log_found, log_row, log_told, put_log
from bornroots.deedsdata import with_length, with_values
from bornroots.deedsmake import with_file, with_folder
from bornroots.deedsmove import with_move
from bornroots.drives import Drives
from bornroots.faults import lose, rot
from bornroots.rows import check_of, half_of, is_good, made_row

from pools import all_seen, cells, example_pool, open_deed, put_volume
from records import ONE_BUCKET, TOP, Table, done, made, some_deed
from refusals import OFF, refusal


def numbers_of(row):
    return row[4:-1]


class RowTest(unittest.TestCase):
    def test_the_example(self):
        new = with_file(TOP, "/f")[0]
        row = log_row(2, 0, 1, TOP, new)
        self.assertEqual(row[:-1], (3, 33, 2, 12, 0, 1, 2, 7, 2, 6, 1, 8, 3, 1, 1, 0))
        self.assertEqual(row[-1], check_of(row[:-1]))
        self.assertEqual(log_told(row), (0, 1, ((7, (6, 1)), (8, (1, 1, 0)))))

    def test_each_log_cell(self):
        for i in range(8):
            row = log_row(9, i, 5, TOP, TOP)
            self.assertEqual(row, made_row(3, 33 + i, 9, (i, 5, 0)))
            self.assertEqual(log_told(row), (i, 5, ()))

    def test_keys_that_are_gone(self):
        old = {**made("/f"), 8: (1, 1, 11), 9: (5, 0, 0, 0, 0, 0, 0, 0), 10: (0, 0, 7, 0, 0, 0, 0, 0)}
        row = log_row(4, 1, 3, old, with_length(old, "/f", 1))
        self.assertEqual(numbers_of(row), (1, 3, 2, 8, 3, 1, 1, 1, 10, 0))
        self.assertEqual(log_told(row), (1, 3, ((8, (1, 1, 1)), (10, ()))))
        row = log_row(4, 7, 3, old, TOP)
        self.assertEqual(numbers_of(row), (7, 3, 4, 7, 0, 8, 0, 9, 0, 10, 0))
        self.assertEqual(log_told(row), (7, 3, ((7, ()), (8, ()), (9, ()), (10, ()))))

    def test_41_numbers(self):
        # From a bucket of eight entries into one of seven, a folder: two buckets and a head record change.
        names = ONE_BUCKET[:8]
        old = made("/d/", *["/" + name for name in names[1:]], "/a/", *["/d/" + name for name in names[1:]])
        new = with_move(old, "/a", "/d/a")
        row = log_row(1000002, 7, 1000002, old, new)
        self.assertEqual((row[3], len(row)), (41, 46))
        self.assertTrue(is_good(row))
        self.assertEqual(numbers_of(row)[:3], (7, 1000002, 3))
        self.assertEqual(log_told(row), (7, 1000002, ((2, new[2]), (10, new[10]), (72, (2, 1)))))
        self.assertEqual((len(new[2]), len(new[10])), (14, 16))

    def test_there_and_back(self):
        most = 0
        for seed in range(12):
            chance = random.Random(seed)
            records, table = dict(TOP), Table()
            for at in range(80):
                deed = some_deed(chance, table)
                if table.refusal(*deed) is not None:
                    continue
                new = done(records, *deed)
                row = log_row(at + 1, at % 8, seed + 1, records, new)
                i, head, told = log_told(row)
                self.assertEqual((i, head, row[1]), (at % 8, seed + 1, 33 + at % 8))
                self.assertEqual([key for key, _ in told], sorted(key for key, _ in told))
                self.assertTrue(all(records.get(key, ()) != record for key, record in told))
                replayed = {**records, **dict(told)}
                self.assertEqual({key: record for key, record in replayed.items() if record}, new)
                most = max(most, row[3])
                records = new
                table.do(*deed)
        self.assertLessEqual(most, 41)

    def test_what_is_handed_in_stays(self):
        old, new = made("/f"), made("/f", "/g")
        before = (dict(old), dict(new))
        log_row(2, 0, 1, old, new)
        self.assertEqual((old, new), before)
        self.assertIsInstance(log_told(log_row(2, 0, 1, old, new)), tuple)


class PutTest(unittest.TestCase):
    def test_on_all_drives_that_are_on(self):
        pool = example_pool(many=3, snap=True)
        pool.drives.turn(1, False)
        head = pool.root.book.roots[1]
        old = pool.records_of(head)
        new = with_values(old, "/f", 0, [5])
        before, begun, records = cells(pool.drives), pool.drives.begun(), [dict(old), dict(new)]
        self.assertIsNone(put_log(pool, 1, old, new))
        row = (3, 33, 4, 18, 0, 1, 2, 8, 3, 1, 1, 1, 9, 8, 5, 0, 0, 0, 0, 0, 0, 0)
        for drive in (0, 2):
            self.assertEqual(pool.drives.cell(drive, 33), (*row, check_of(row)))
            before[drive][33] = (*row, check_of(row))
        self.assertEqual((cells(pool.drives), pool.drives.begun(), pool.drives.pending()), (before, begun + 2, []))
        self.assertEqual((pool.opened, [old, new]), ([], records))

    def test_the_next_cell_by_how_many_are_open(self):
        pool = example_pool(snap=True)
        for at in range(8):
            open_deed(pool, "a", with_values, "/f", at, [at])
            self.assertEqual(log_told(pool.drives.cell(0, 33 + at))[0], at)
        self.assertEqual([pool.drives.cell(0, 33 + at)[2] for at in range(8)], [4] * 8)

    def test_off(self):
        pool = example_pool()
        pool.drives.cut()
        before = all_seen(pool)
        self.assertEqual(refusal(put_log, pool, 1, TOP, TOP), OFF)
        self.assertEqual(all_seen(pool), before)


class FoundTest(unittest.TestCase):
    def logged(self, many=2):
        """A pool with the open deeds 0 to 3, and what log_found tells of each."""
        pool = example_pool(many, snap=True)
        put_volume(pool, "b")
        open_deed(pool, "a", with_values, "/f", 0, [5])
        open_deed(pool, "b", with_folder, "/d")
        open_deed(pool, "a", lambda records: dict(records))
        open_deed(pool, "a", with_length, "/f", 0)
        return pool, [(1, ((8, (1, 1, 1)), (9, (5, 0, 0, 0, 0, 0, 0, 0)))), (3, ((5, (4, 1)), (8, (2, 0)))), (1, ()),
                      (1, ((8, (1, 1, 0)), (9, ())))]

    def test_all_rows(self):
        pool, told = self.logged()
        self.assertEqual(log_found(pool.drives, 5), told)
        pool.drives.turn(0, False)
        self.assertEqual(log_found(pool.drives, 5), told)
        self.assertIs(has_log(pool.drives, 5), True)

    def test_another_number(self):
        pool, _ = self.logged()
        for number in (4, 6, 1):
            self.assertEqual(log_found(pool.drives, number), [])
            self.assertIs(has_log(pool.drives, number), False)

    def test_up_to_the_first_row_that_fits_on_no_drive(self):
        for i in range(4):
            pool, told = self.logged()
            rot(pool.drives, 0, 33 + i, 2, 1)
            self.assertEqual(log_found(pool.drives, 5), told)
            pool.drives.lay(1, 33 + i, half_of(pool.drives.cell(1, 33 + i)))
            self.assertEqual(log_found(pool.drives, 5), told[:i])
            self.assertIs(has_log(pool.drives, 5), True)

    def test_rows_of_which_each_fits_on_one_drive_alone(self):
        pool, told = self.logged(3)
        for i in range(4):
            for drive in range(3):
                if drive != i % 3:
                    pool.drives.lay(drive, 33 + i, ())
        self.assertEqual(log_found(pool.drives, 5), told)
        for i in range(3):
            pool.drives.lay(i % 3, 33 + i, made_row(3, 33 + i, 4, (i, 1, 0)))
        self.assertEqual((log_found(pool.drives, 5), has_log(pool.drives, 5)), ([], True))
        pool.drives.lay(0, 36, ())
        self.assertIs(has_log(pool.drives, 5), False)

    def test_a_row_of_another_number_ends_it(self):
        pool, told = self.logged(1)
        pool.drives.lay(0, 34, made_row(3, 34, 4, (1, 1, 0)))
        self.assertEqual(log_found(pool.drives, 5), told[:1])
        self.assertEqual(log_found(pool.drives, 4), [])
        self.assertIs(has_log(pool.drives, 4), True)

    def test_a_row_in_another_log_cell_does_not_fit(self):
        pool, _ = self.logged(1)
        pool.drives.lay(0, 37, pool.drives.cell(0, 33))
        for place in range(33, 37):
            pool.drives.lay(0, place, ())
        self.assertEqual((log_found(pool.drives, 5), has_log(pool.drives, 5)), ([], False))

    def test_a_lost_row(self):
        pool = example_pool()
        lose(pool.drives, 0, 33)
        open_deed(pool, "a", with_values, "/f", 0, [5])
        open_deed(pool, "a", with_values, "/f", 0, [6])
        self.assertEqual((log_found(pool.drives, 3), has_log(pool.drives, 3)), ([], True))

    def test_no_row(self):
        self.assertEqual((log_found(Drives(1, 8), 1), has_log(Drives(3, 8), 1)), ([], False))

    def test_eight_rows_and_a_list_of_its_own(self):
        pool = example_pool(snap=True)
        for at in range(8):
            open_deed(pool, "a", with_values, "/f", at, [at + 1])
        told = log_found(pool.drives, 4)
        self.assertEqual(len(told), 8)
        told.clear()
        self.assertEqual(len(log_found(pool.drives, 4)), 8)
        self.assertIsInstance(log_found(pool.drives, 4)[0], tuple)


if __name__ == "__main__":
    unittest.main()
