import unittest

from bornroots.drives import Drives
from bornroots.faults import lose, rot, stray, wipe
from bornroots.rows import half_of

from drivesmodel import begun_drives, leaf
from refusals import OFF, refusal

M = 1000003


class LoseTest(unittest.TestCase):
    def test_lands_nothing_but_counts_and_is_pending(self):
        drives = begun_drives()
        drives.put(41, leaf(41, 2))
        self.assertIsNone(lose(drives, 0, 41))
        drives.put(42, leaf(42, 3))
        drives.put(41, leaf(41, 3))
        self.assertEqual(drives.pending(), [(0, 41, leaf(41, 2)), (0, 42, leaf(42, 3)), (0, None, leaf(41, 3))])
        self.assertEqual(drives.begun(), 3)
        self.assertEqual(drives.cell(0, 41), leaf(41, 2))
        drives.put(41, leaf(41, 4))
        self.assertEqual(drives.cell(0, 41), leaf(41, 4))

    def test_lands_nothing_by_any_digit(self):
        for digit in (0, 1, 2):
            drives = begun_drives()
            drives.put(41, leaf(41, 2))
            drives.flush()
            lose(drives, 0, 41)
            drives.arm(2, digit)
            drives.put(41, leaf(41, 3))
            self.assertEqual(refusal(drives.put, 42, leaf(42, 3)), OFF)
            self.assertEqual((drives.cell(0, 41), drives.cell(0, 42)), (leaf(41, 2), leaf(42, 3)))

    def test_a_lost_write_meets_the_arm(self):
        drives = begun_drives()
        lose(drives, 0, 41)
        drives.arm(1, 0)
        self.assertEqual(refusal(drives.put, 41, leaf(41, 2)), OFF)
        drives.start()
        drives.put(41, leaf(41, 3))
        self.assertEqual(drives.cell(0, 41), leaf(41, 3))

    def test_only_the_told_drive(self):
        drives = begun_drives(2)
        lose(drives, 1, 41)
        drives.put(41, leaf(41, 2))
        self.assertEqual((drives.cell(0, 41), drives.cell(1, 41)), (leaf(41, 2), ()))


class StrayTest(unittest.TestCase):
    def test_lands_in_the_other_cell(self):
        drives = begun_drives(2)
        self.assertIsNone(stray(drives, 1, 41, 45))
        drives.put(41, leaf(41, 2))
        self.assertEqual(drives.pending(), [(0, 41, leaf(41, 2)), (1, 45, leaf(41, 2))])
        self.assertEqual((drives.cell(0, 41), drives.cell(0, 45)), (leaf(41, 2), ()))
        self.assertEqual((drives.cell(1, 41), drives.cell(1, 45)), ((), leaf(41, 2)))
        drives.put(41, leaf(41, 3))
        self.assertEqual(drives.cell(1, 41), leaf(41, 3))
        self.assertEqual(drives.cell(1, 45), leaf(41, 2))

    def test_by_each_digit(self):
        for digit in (0, 1, 2):
            drives = begun_drives()
            drives.put(45, leaf(45, 2))
            drives.flush()
            stray(drives, 0, 41, 45)
            drives.arm(1, digit)
            self.assertEqual(refusal(drives.put, 41, leaf(41, 3)), OFF)
            left = (leaf(41, 3), leaf(45, 2), half_of(leaf(41, 3)))[digit]
            self.assertEqual((drives.cell(0, 41), drives.cell(0, 45)), ((), left))

    def test_to_its_own_cell(self):
        drives = begun_drives()
        stray(drives, 0, 41, 41)
        drives.put(41, leaf(41, 2))
        self.assertEqual(drives.cell(0, 41), leaf(41, 2))
        self.assertEqual(drives.pending(), [(0, 41, leaf(41, 2))])

    def test_to_a_cell_that_awaits_a_fault_itself(self):
        drives = begun_drives()
        stray(drives, 0, 41, 42)
        lose(drives, 0, 42)
        drives.put(41, leaf(41, 2))
        self.assertEqual(drives.cell(0, 42), leaf(41, 2))
        drives.put(42, leaf(42, 2))
        self.assertEqual(drives.cell(0, 42), leaf(41, 2))
        drives.put(42, leaf(42, 3))
        self.assertEqual(drives.cell(0, 42), leaf(42, 3))

    def test_two_strays_in_a_ring(self):
        drives = begun_drives()
        stray(drives, 0, 41, 42)
        stray(drives, 0, 42, 41)
        drives.put(41, leaf(41, 2))
        drives.put(42, leaf(42, 2))
        self.assertEqual((drives.cell(0, 41), drives.cell(0, 42)), (leaf(42, 2), leaf(41, 2)))


class AwaitingTest(unittest.TestCase):
    def test_a_later_fault_replaces(self):
        drives = begun_drives()
        lose(drives, 0, 41)
        stray(drives, 0, 41, 42)
        drives.put(41, leaf(41, 2))
        drives.put(41, leaf(41, 3))
        self.assertEqual((drives.cell(0, 41), drives.cell(0, 42)), (leaf(41, 3), leaf(41, 2)))
        stray(drives, 0, 41, 43)
        lose(drives, 0, 41)
        drives.put(41, leaf(41, 4))
        self.assertEqual((drives.cell(0, 41), drives.cell(0, 43)), (leaf(41, 3), ()))

    def test_outlives_cuts_and_starts(self):
        drives = Drives(1, 8)
        lose(drives, 0, 41)
        stray(drives, 0, 42, 43)
        drives.start()
        drives.cut()
        drives.start()
        drives.start()
        drives.put(41, leaf(41, 2))
        drives.put(42, leaf(42, 2))
        self.assertEqual([drives.cell(0, place) for place in (41, 42, 43)], [(), (), leaf(42, 2)])

    def test_outlives_an_armed_cut(self):
        drives = begun_drives()
        lose(drives, 0, 41)
        drives.arm(1, 0)
        self.assertEqual(refusal(drives.put, 42, leaf(42, 2)), OFF)
        drives.start()
        drives.put(41, leaf(41, 2))
        self.assertEqual(drives.cell(0, 41), ())

    def test_on_drives_that_are_off(self):
        drives = begun_drives(2)
        drives.turn(1, False)
        lose(drives, 1, 41)
        drives.put(41, leaf(41, 2))
        drives.put(41, leaf(41, 2), only=(1,))
        self.assertEqual(drives.pending()[1], (1, None, leaf(41, 2)))
        self.assertEqual(drives.cell(1, 41), ())

    def test_making_a_fault_leaves_pending_writes(self):
        drives = begun_drives()
        drives.put(41, leaf(41, 2))
        lose(drives, 0, 41)
        stray(drives, 0, 42, 41)
        self.assertEqual(drives.pending(), [(0, 41, leaf(41, 2))])

    def test_refusals(self):
        drives = begun_drives(2)
        for drive in (-1, 2):
            self.assertEqual(refusal(lose, drives, drive, 49), ("BadNumber", drive))
            self.assertEqual(refusal(stray, drives, drive, 49, 50), ("BadNumber", drive))
            self.assertEqual(refusal(wipe, drives, drive), ("BadNumber", drive))
        for place in (-1, 49):
            self.assertEqual(refusal(lose, drives, 1, place), ("BadNumber", place))
            self.assertEqual(refusal(stray, drives, 1, place, 50), ("BadNumber", place))
            self.assertEqual(refusal(stray, drives, 1, 41, place), ("BadNumber", place))
        drives.put(41, leaf(41, 2))
        self.assertEqual(drives.pending(), [(0, 41, leaf(41, 2)), (1, 41, leaf(41, 2))])


class RotTest(unittest.TestCase):
    def test_changes_one_number(self):
        row = leaf(41, 2, 7, M - 1)
        for at in range(len(row)):
            for by in (1, 5, M - 1):
                drives = Drives(2, 8)
                drives.lay(1, 41, row)
                self.assertIsNone(rot(drives, 1, 41, at, by))
                self.assertEqual(drives.cell(1, 41), (*row[:at], (row[at] + by) % M, *row[at + 1:]))
                self.assertEqual(drives.cell(0, 41), ())

    def test_twice_is_refused(self):
        drives = Drives(1, 8)
        drives.lay(0, 41, leaf(41, 2))
        rot(drives, 0, 41, 0, 1)
        before = drives.cell(0, 41)
        self.assertEqual(refusal(rot, drives, 0, 41, 0, M - 1), ("NotGood", 41))
        self.assertEqual(drives.cell(0, 41), before)

    def test_pending_writes_stand_for_good_first(self):
        drives = begun_drives()
        drives.put(42, leaf(42, 2))
        drives.put(41, leaf(41, 2))
        rot(drives, 0, 41, 2, 1)
        self.assertEqual((drives.pending(), drives.begun()), ([], 2))
        drives.arm(1, 0)
        self.assertEqual(refusal(drives.put, 43, leaf(43, 2)), OFF)
        self.assertEqual((drives.cell(0, 42), drives.cell(0, 41)), (leaf(42, 2), (5, 41, 3, 0, 93)))

    def test_refusals_in_their_order(self):
        drives = begun_drives(2)
        drives.put(41, leaf(41, 2))
        drives.put(42, (1, 2))
        for drive in (-1, 2):
            self.assertEqual(refusal(rot, drives, drive, 49, -1, 0), ("BadNumber", drive))
        for place in (-1, 49):
            self.assertEqual(refusal(rot, drives, 1, place, -1, 0), ("BadNumber", place))
        for by in (-1, 0, M, M + 1):
            self.assertEqual(refusal(rot, drives, 1, 42, -1, by), ("BadNumber", by))
            self.assertEqual(refusal(rot, drives, 1, 41, 0, by), ("BadNumber", by))
        for place in (42, 43):
            self.assertEqual(refusal(rot, drives, 1, place, -1, 1), ("NotGood", place))
        for at in (-1, 5, 60):
            self.assertEqual(refusal(rot, drives, 1, 41, at, 1), ("BadNumber", at))
        self.assertEqual(len(drives.pending()), 4)
        self.assertEqual(drives.cell(1, 41), leaf(41, 2))

    def test_without_power_and_on_a_drive_that_is_off(self):
        drives = begun_drives(2)
        drives.put(41, leaf(41, 2))
        drives.cut()
        drives.turn(1, False)
        rot(drives, 1, 41, 4, 1)
        self.assertEqual(drives.cell(1, 41), (5, 41, 2, 0, 94))

    def test_meets_no_fault(self):
        drives = begun_drives()
        drives.put(41, leaf(41, 2))
        lose(drives, 0, 41)
        rot(drives, 0, 41, 0, 1)
        self.assertEqual(drives.cell(0, 41), (6, 41, 2, 0, 93))
        drives.put(41, leaf(41, 3))
        self.assertEqual(drives.cell(0, 41), (6, 41, 2, 0, 93))


class WipeTest(unittest.TestCase):
    def test_empties_the_drive_and_its_faults(self):
        drives = begun_drives(2)
        for place in (0, 41, 48):
            drives.put(place, leaf(place, 2))
        for drive in (0, 1):
            lose(drives, drive, 41)
            stray(drives, drive, 42, 43)
        self.assertIsNone(wipe(drives, 1))
        self.assertEqual([drives.cell(1, place) for place in range(49)], [()] * 49)
        self.assertEqual(drives.cell(0, 48), leaf(48, 2))
        self.assertEqual((drives.pending(), drives.begun()), ([], 6))
        drives.put(41, leaf(41, 3))
        drives.put(42, leaf(42, 3))
        lands = [(0, None, leaf(41, 3)), (1, 41, leaf(41, 3)), (0, 43, leaf(42, 3)), (1, 42, leaf(42, 3))]
        self.assertEqual(drives.pending(), lands)

    def test_other_drives_writes_stand_for_good(self):
        drives = begun_drives(2)
        drives.put(41, leaf(41, 2))
        wipe(drives, 1)
        drives.arm(1, 1)
        self.assertEqual(refusal(drives.put, 42, leaf(42, 2)), OFF)
        self.assertEqual((drives.cell(0, 41), drives.cell(1, 41)), (leaf(41, 2), ()))

    def test_without_power_and_on_a_drive_that_is_off(self):
        drives = begun_drives(2)
        drives.put(41, leaf(41, 2))
        drives.turn(1, False)
        drives.cut()
        wipe(drives, 1)
        self.assertEqual((drives.cell(0, 41), drives.cell(1, 41)), (leaf(41, 2), ()))
        self.assertIs(drives.is_on(1), False)


if __name__ == "__main__":
    unittest.main()
