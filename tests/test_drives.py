import random
import unittest

from bornroots import faults
from bornroots.drives import Drives
from bornroots.rows import half_of

from drivesmodel import Model, begun_drives, leaf
from refusals import OFF, refusal

def state_of(drives):
    """All that can be seen of drives."""
    cells = [[drives.cell(drive, place) for place in range(41 + drives.room)] for drive in range(drives.many)]
    return (cells, drives.pending(), drives.begun(), drives.has_power(), drives.owner(), drives.drives_on())


class MakingTest(unittest.TestCase):
    def test_bounds(self):
        for many in (-1, 0, 4, 5):
            self.assertEqual(refusal(Drives, many, 8), ("BadNumber", many))
        for room in (-1, 0, 7, 401, 1000):
            self.assertEqual(refusal(Drives, 1, room), ("BadNumber", room))
        self.assertEqual(refusal(Drives, 4, 7), ("BadNumber", 4))
        self.assertEqual(refusal(Drives, room=7, many=3), ("BadNumber", 7))

    def test_at_first(self):
        for many in (1, 2, 3):
            for room in (8, 9, 400):
                drives = Drives(many, room)
                self.assertEqual((drives.many, drives.room), (many, room))
                self.assertIs(drives.has_power(), False)
                self.assertEqual(drives.owner(), 0)
                self.assertEqual(drives.drives_on(), tuple(range(many)))
                self.assertEqual((drives.pending(), drives.begun()), ([], 0))
                for drive in range(many):
                    self.assertIs(drives.is_on(drive), True)
                    self.assertEqual([drives.cell(drive, place) for place in range(41 + room)], [()] * (41 + room))
                self.assertEqual(refusal(drives.cell, many - 1, 41 + room), ("BadNumber", 41 + room))


class BadNumberTest(unittest.TestCase):
    """Drives(2, 8) has the drives 0 and 1 and the places 0 to 48."""

    def setUp(self):
        self.drives = begun_drives(2)
        self.drives.put(48, leaf(48, 2))

    def refused(self, what, name, *given, **named):
        before = state_of(self.drives)
        self.assertEqual(refusal(getattr(self.drives, name), *given, **named), ("BadNumber", what))
        self.assertEqual(state_of(self.drives), before)

    def test_first_from_the_left(self):
        for drive in (-1, 2, 99):
            self.refused(drive, "cell", drive, 49)
            self.refused(drive, "is_on", drive)
            self.refused(drive, "turn", drive, False)
            self.refused(drive, "await_fault", drive, 49, -1)
            self.refused(drive, "lay", drive, 49, ())
            self.refused(drive, "blank", drive)
            self.refused(drive, "put", 41, leaf(41, 2), only=(0, drive, -7))
            self.refused(drive, "fitting", 5, 48, 2, only=(0, drive, -7))
        for place in (-1, 49, 1000):
            self.refused(place, "cell", 1, place)
            self.refused(place, "put", place, leaf(41, 2))
            self.refused(place, "put", place, leaf(41, 2), only=(2,))
            self.refused(place, "fitting", 5, place, 2)
            self.refused(place, "fitting", 5, place, 2, only=(2,))
            self.refused(place, "await_fault", 1, place, -2)
            self.refused(place, "await_fault", 1, place, None)
            self.refused(place, "await_fault", 1, 48, place)
            self.refused(place, "lay", 1, place, ())

    def test_arm(self):
        for count in (0, -1, -3 ** 50):
            self.refused(count, "arm", count, -1)
        for mask in (-1, -3 ** 50):
            self.refused(mask, "arm", 1, mask)
        self.drives.put(41, leaf(41, 2))
        self.assertTrue(self.drives.has_power())

    def test_a_refused_fault_is_not_awaited(self):
        refusal(self.drives.await_fault, 0, 41, 49)
        self.drives.put(41, leaf(41, 2))
        self.assertEqual(self.drives.cell(0, 41), leaf(41, 2))

    def test_ends_of_ranges_are_let(self):
        for drive in (0, 1):
            for place in (0, 48):
                self.drives.lay(drive, place, leaf(place, 9))
                self.assertEqual(self.drives.cell(drive, place), leaf(place, 9))
                self.drives.await_fault(drive, place, 48 - place)
                self.assertEqual(self.drives.fitting(5, place, 9, only=(drive,)), drive)


class PowerTest(unittest.TestCase):
    def test_off_without_power_ahead_of_all_else(self):
        drives = Drives(2, 8)
        self.assertEqual(refusal(drives.put, 41, leaf(41, 2)), OFF)
        self.assertEqual(refusal(drives.put, 99, leaf(41, 2), only=(7,)), OFF)
        self.assertEqual(refusal(drives.flush), OFF)
        self.assertEqual(drives.begun(), 0)
        self.assertEqual(drives.pending(), [])
        drives.start()
        drives.cut()
        self.assertEqual(refusal(drives.put, 41, leaf(41, 2)), OFF)
        self.assertEqual(refusal(drives.flush), OFF)

    def test_start(self):
        drives = Drives(3, 8)
        drives.turn(1, False)
        self.assertEqual(drives.start(), 1)
        self.assertIs(drives.has_power(), True)
        self.assertEqual(drives.drives_on(), (0, 1, 2))
        drives.put(41, leaf(41, 2))
        drives.turn(0, False)
        before = drives.pending()
        self.assertEqual(drives.start(), 2)
        self.assertEqual(drives.owner(), 2)
        self.assertEqual(drives.pending(), before)
        self.assertEqual(len(before), 3)
        self.assertEqual(drives.drives_on(), (0, 1, 2))
        self.assertEqual(drives.begun(), 3)

    def test_what_was_pending_at_a_start_may_still_be_lost(self):
        drives = begun_drives()
        drives.put(41, leaf(41, 2))
        drives.start()
        drives.arm(1, 1)
        self.assertEqual(refusal(drives.put, 42, leaf(42, 2)), OFF)
        self.assertEqual((drives.cell(0, 41), drives.cell(0, 42)), ((), leaf(42, 2)))

    def test_cut_lands_all_whole(self):
        drives = begun_drives(2)
        drives.put(41, leaf(41, 2))
        drives.put(42, leaf(42, 2))
        drives.cut()
        self.assertIs(drives.has_power(), False)
        self.assertEqual(drives.pending(), [])
        for drive in (0, 1):
            self.assertEqual(drives.cell(drive, 41), leaf(41, 2))
            self.assertEqual(drives.cell(drive, 42), leaf(42, 2))
        self.assertEqual(drives.begun(), 4)
        self.assertEqual(drives.owner(), 1)

    def test_cut_takes_the_arm_away_only_with_power(self):
        drives = Drives(1, 8)
        drives.arm(1, 1)
        drives.cut()
        drives.start()
        self.assertEqual(refusal(drives.put, 41, leaf(41, 2)), OFF)
        drives.start()
        drives.arm(1, 1)
        drives.cut()
        drives.start()
        self.assertIsNone(refusal(drives.put, 41, leaf(41, 2)))

    def test_drives_that_are_off_stay_off_behind_a_cut(self):
        drives = begun_drives(2)
        drives.turn(0, False)
        drives.cut()
        self.assertEqual(drives.drives_on(), (1,))
        self.assertIs(drives.is_on(0), False)


class PuttingTest(unittest.TestCase):
    def test_the_example_of_the_interface(self):
        drives = Drives(1, 8)
        self.assertEqual(drives.start(), 1)
        drives.put(41, (5, 41, 2, 0, 93))
        self.assertEqual(drives.pending(), [(0, 41, (5, 41, 2, 0, 93))])

    def test_on_all_drives_that_are_on(self):
        drives = begun_drives(3)
        drives.turn(1, False)
        row = leaf(41, 2)
        self.assertIsNone(drives.put(41, row))
        self.assertEqual(drives.pending(), [(0, 41, row), (2, 41, row)])
        self.assertEqual(drives.begun(), 2)
        self.assertEqual([drives.cell(drive, 41) for drive in range(3)], [row, (), row])
        drives.turn(1, True)
        drives.put(41, row)
        self.assertEqual(drives.pending()[2:], [(0, 41, row), (1, 41, row), (2, 41, row)])

    def test_on_named_drives_ascending_each_once(self):
        row = leaf(41, 2)
        for only, told in (((2, 0), [0, 2]), ((1, 0, 1, 1), [0, 1]), ((), []), ((2,), [2]), ((2, 1, 0), [0, 1, 2])):
            drives = begun_drives(3)
            drives.turn(1, False)
            drives.put(41, row, only=only)
            self.assertEqual(drives.pending(), [(drive, 41, row) for drive in told])
            self.assertEqual(drives.begun(), len(told))

    def test_no_drive_is_on(self):
        drives = begun_drives(1)
        drives.turn(0, False)
        drives.put(41, leaf(41, 2))
        self.assertEqual((drives.drives_on(), drives.pending(), drives.begun()), ((), [], 0))

    def test_rows_may_be_bad_ones(self):
        drives = begun_drives()
        for row in ((), (1,), (5, 41, 2, 0, 94)):
            drives.put(41, row)
            self.assertEqual(drives.cell(0, 41), row)
            drives.lay(0, 42, row)
            self.assertEqual(drives.cell(0, 42), row)

    def test_flush(self):
        drives = begun_drives()
        drives.put(41, leaf(41, 2))
        self.assertIsNone(drives.flush())
        self.assertEqual((drives.pending(), drives.begun()), ([], 1))
        drives.put(41, leaf(41, 3))
        drives.arm(1, 1 + 3)
        self.assertEqual(refusal(drives.put, 41, leaf(41, 4)), OFF)
        self.assertEqual(drives.cell(0, 41), leaf(41, 2))

    def test_told_lists_may_be_spoilt(self):
        drives = begun_drives()
        drives.put(41, leaf(41, 2))
        drives.pending().clear()
        self.assertEqual(drives.pending(), [(0, 41, leaf(41, 2))])

    def test_arguments_by_name(self):
        drives = Drives(room=8, many=2)
        drives.start()
        drives.put(row=leaf(41, 2), place=41, only=(1,))
        self.assertEqual(drives.cell(place=41, drive=1), leaf(41, 2))
        self.assertEqual(drives.fitting(number=2, place=41, kind=5, only=None), 1)
        drives.turn(on=False, drive=1)
        self.assertIs(drives.is_on(drive=1), False)
        drives.await_fault(other=None, place=42, drive=0)
        drives.lay(row=leaf(43, 2), place=43, drive=0)
        drives.blank(drive=1)
        drives.arm(mask=0, count=1)
        with self.assertRaises(TypeError):
            drives.put(41, leaf(41, 2), (1,))
        with self.assertRaises(TypeError):
            drives.fitting(5, 41, 2, (1,))


class FittingTest(unittest.TestCase):
    def setUp(self):
        self.drives = begun_drives(3)
        self.drives.put(41, leaf(41, 2), only=(1, 2))
        self.drives.put(41, leaf(41, 3), only=(0,))

    def test_over_all_drives(self):
        self.assertEqual(self.drives.fitting(5, 41, 2), 1)
        self.assertEqual(self.drives.fitting(5, 41, 3), 0)
        self.assertEqual(self.drives.fitting(5, 41, None), 0)
        self.assertIsNone(self.drives.fitting(5, 41, 4))
        self.assertIsNone(self.drives.fitting(4, 41, 2))
        self.assertIsNone(self.drives.fitting(5, 42, 2))

    def test_over_named_drives(self):
        self.assertEqual(self.drives.fitting(5, 41, 2, only=(2,)), 2)
        self.assertEqual(self.drives.fitting(5, 41, 2, only=(2, 1)), 1)
        self.assertEqual(self.drives.fitting(5, 41, 2, only=(2, 0)), 2)
        self.assertIsNone(self.drives.fitting(5, 41, 2, only=(0,)))
        self.assertIsNone(self.drives.fitting(5, 41, 2, only=()))

    def test_drives_that_are_off_and_without_power(self):
        self.drives.turn(1, False)
        self.assertEqual(self.drives.fitting(5, 41, 2), 1)
        self.drives.cut()
        self.assertEqual(self.drives.fitting(5, 41, 2), 1)
        self.assertEqual(self.drives.cell(1, 41), leaf(41, 2))

    def test_rows_that_are_not_good(self):
        self.drives.lay(1, 41, half_of(leaf(41, 2)))
        self.assertEqual(self.drives.fitting(5, 41, 2), 2)
        self.drives.lay(2, 41, leaf(42, 2))
        self.assertIsNone(self.drives.fitting(5, 41, 2))


class ArmedTest(unittest.TestCase):
    def test_the_example(self):
        drives = begun_drives()
        row = (5, 41, 2, 0, 93)
        drives.put(41, row)
        drives.flush()
        drives.arm(2, 2)
        drives.put(41, leaf(41, 3, 7))
        self.assertEqual(refusal(drives.put, 42, leaf(42, 3)), OFF)
        self.assertEqual(drives.cell(0, 41), half_of(leaf(41, 3, 7)))
        self.assertEqual(drives.cell(0, 42), leaf(42, 3))
        self.assertIs(drives.has_power(), False)
        self.assertEqual(drives.pending(), [])
        self.assertEqual(drives.begun(), 3)

    def test_at_each_count_with_each_digit(self):
        for count in range(1, 5):
            for mask in range(3 ** count):
                drives = begun_drives()
                for place in range(41, 45):
                    drives.put(place, leaf(place, 2))
                drives.flush()
                drives.arm(count, mask)
                told = [refusal(drives.put, place, leaf(place, 3)) for place in range(41, 45)]
                self.assertEqual(told, [None] * (count - 1) + [OFF] * (5 - count))
                self.assertEqual(drives.begun(), 4 + count)
                for j in range(4):
                    place = 41 + j
                    left = (leaf(place, 3), leaf(place, 2), half_of(leaf(place, 3)))[mask // 3 ** j % 3]
                    self.assertEqual(drives.cell(0, place), left if j < count else leaf(place, 2))

    def test_two_writes_to_one_cell(self):
        old, one, two = leaf(41, 2), leaf(41, 3, 1, 2), leaf(41, 4, 5, 6, 7)
        left = {0: two, 1: one, 2: half_of(two)}
        first = {0: one, 1: old, 2: half_of(one)}
        for mask in range(9):
            drives = begun_drives()
            drives.put(41, old)
            drives.flush()
            drives.arm(2, mask)
            drives.put(41, one)
            self.assertEqual(refusal(drives.put, 41, two), OFF)
            last = mask // 3
            self.assertEqual(drives.cell(0, 41), first[mask % 3] if last == 1 else left[last])

    def test_pending_writes_from_ahead_of_the_arm_count_as_digits(self):
        drives = begun_drives()
        drives.put(41, leaf(41, 2))
        drives.arm(1, 1)
        self.assertEqual(refusal(drives.put, 42, leaf(42, 2)), OFF)
        self.assertEqual((drives.cell(0, 41), drives.cell(0, 42)), ((), leaf(42, 2)))

    def test_flushes_do_not_count_and_save_what_was_put(self):
        drives = begun_drives()
        drives.arm(2, 1 + 3)
        drives.put(41, leaf(41, 2))
        drives.flush()
        drives.flush()
        self.assertEqual(refusal(drives.put, 42, leaf(42, 2)), OFF)
        self.assertEqual((drives.cell(0, 41), drives.cell(0, 42)), (leaf(41, 2), ()))

    def test_in_the_midst_of_one_put(self):
        drives = begun_drives(3)
        drives.arm(2, 0)
        row = leaf(41, 2)
        self.assertEqual(refusal(drives.put, 41, row), OFF)
        self.assertEqual([drives.cell(drive, 41) for drive in range(3)], [row, row, ()])
        self.assertEqual(drives.begun(), 2)

    def test_in_the_midst_of_a_put_on_named_drives(self):
        drives = begun_drives(3)
        drives.turn(0, False)
        drives.arm(2, 3)
        row = leaf(41, 2)
        self.assertEqual(refusal(drives.put, 41, row, only=(2, 1, 0)), OFF)
        self.assertEqual([drives.cell(drive, 41) for drive in range(3)], [row, (), ()])

    def test_arming_again_replaces(self):
        drives = begun_drives()
        drives.arm(1, 1)
        drives.arm(3, 0)
        drives.put(41, leaf(41, 2))
        drives.arm(2, 1)
        drives.put(42, leaf(42, 2))
        self.assertEqual(refusal(drives.put, 43, leaf(43, 2)), OFF)
        self.assertEqual(drives.cell(0, 41), ())
        self.assertEqual(drives.cell(0, 42), leaf(42, 2))

    def test_armed_without_power_outlives_starts(self):
        drives = Drives(1, 8)
        drives.arm(3, 1 + 3)
        drives.start()
        drives.put(41, leaf(41, 2))
        drives.start()
        drives.put(42, leaf(42, 2))
        drives.start()
        self.assertEqual(refusal(drives.put, 43, leaf(43, 2)), OFF)
        self.assertEqual([drives.cell(0, place) for place in (41, 42, 43)], [(), (), leaf(43, 2)])

    def test_an_arm_is_used_up(self):
        drives = begun_drives()
        drives.arm(1, 1)
        self.assertEqual(refusal(drives.put, 41, leaf(41, 2)), OFF)
        drives.start()
        for place in range(41, 49):
            drives.put(place, leaf(place, 3))
        self.assertTrue(drives.has_power())

    def test_masks_of_any_size(self):
        drives = begun_drives()
        drives.arm(300, 3 ** 299 * 2 + 3 ** 298 + 3 ** 9000)
        for i in range(299):
            drives.put(41 + i % 4, leaf(41, i))
        self.assertEqual(refusal(drives.put, 48, leaf(48, 7)), OFF)
        self.assertEqual(drives.cell(0, 48), half_of(leaf(48, 7)))
        self.assertEqual(drives.cell(0, 41 + 298 % 4), leaf(41, 294))
        self.assertEqual(drives.cell(0, 41 + 297 % 4), leaf(41, 297))


class LayingTest(unittest.TestCase):
    def test_lay_makes_pending_writes_stand(self):
        drives = begun_drives(2)
        drives.put(41, leaf(41, 2))
        self.assertIsNone(drives.lay(0, 42, leaf(42, 9)))
        self.assertEqual((drives.pending(), drives.begun()), ([], 2))
        drives.arm(1, 1)
        self.assertEqual(refusal(drives.put, 42, leaf(42, 10)), OFF)
        self.assertEqual([drives.cell(drive, 41) for drive in (0, 1)], [leaf(41, 2)] * 2)
        self.assertEqual([drives.cell(drive, 42) for drive in (0, 1)], [leaf(42, 9), ()])

    def test_lay_meets_no_fault_and_no_arm(self):
        drives = begun_drives()
        drives.await_fault(0, 41, None)
        drives.arm(1, 1)
        drives.lay(0, 41, leaf(41, 2))
        self.assertEqual(drives.cell(0, 41), leaf(41, 2))
        self.assertTrue(drives.has_power())
        drives.arm(2, 0)
        drives.put(41, leaf(41, 3))
        self.assertEqual(drives.pending(), [(0, None, leaf(41, 3))])

    def test_blank(self):
        drives = begun_drives(2)
        drives.put(41, leaf(41, 2))
        drives.await_fault(0, 42, None)
        drives.await_fault(1, 42, None)
        self.assertIsNone(drives.blank(0))
        self.assertEqual([drives.cell(0, place) for place in range(49)], [()] * 49)
        self.assertEqual(drives.cell(1, 41), leaf(41, 2))
        self.assertEqual((drives.pending(), drives.begun()), ([], 2))
        drives.put(42, leaf(42, 2))
        self.assertEqual(drives.pending(), [(0, 42, leaf(42, 2)), (1, None, leaf(42, 2))])
        drives.cut()
        self.assertEqual(drives.cell(1, 41), leaf(41, 2))

    def test_without_power_and_on_drives_that_are_off(self):
        drives = Drives(2, 8)
        drives.turn(1, False)
        drives.lay(1, 41, leaf(41, 2))
        self.assertEqual(drives.cell(1, 41), leaf(41, 2))
        drives.blank(1)
        self.assertEqual(drives.cell(1, 41), ())


class ModelTest(unittest.TestCase):
    """Long rows of calls, told by a second, plain model."""

    def test_as_the_model_tells(self):
        for seed in range(120):
            chance = random.Random(seed)
            many = chance.randint(1, 3)
            drives, model = Drives(many, 8), Model(many, 8)
            for step in range(60):
                self.step(chance, drives, model, step)
                told = {(d, p): drives.cell(d, p) for d in range(many) for p in range(49)}
                self.assertEqual(told, model.shown(), (seed, step))
                self.assertEqual(drives.pending(), model.writes)
                seen = (drives.begun(), drives.has_power(), drives.owner(), drives.drives_on())
                on = tuple(d for d in range(many) if model.on[d])
                self.assertEqual(seen, (model.begun, model.power, model.owner, on))

    def step(self, chance, drives, model, step):
        drive = chance.randrange(model.many)
        place = chance.randrange(41, 45)
        row = leaf(place, step, *[chance.randrange(9) for _ in range(chance.randrange(4))])
        deed = chance.choice(["put"] * 8 + ["only"] * 3 + ["flush", "arm", "arm", "start", "start", "cut", "turn",
                                                           "lose", "stray", "stray", "rot", "wipe", "lay"])
        if deed == "put":
            self.assertEqual(refusal(drives.put, place, row), model.put(place, row))
        elif deed == "only":
            only = tuple(chance.choices(range(model.many), k=chance.randint(0, 3)))
            self.assertEqual(refusal(drives.put, place, row, only=only), model.put(place, row, only))
        elif deed == "flush":
            self.assertEqual(refusal(drives.flush), model.flush())
        elif deed == "arm":
            count, mask = chance.randint(1, 6), chance.randrange(3 ** 8)
            drives.arm(count, mask)
            model.armed = [count, mask]
        elif deed == "start":
            drives.start()
            model.start()
        elif deed == "cut":
            drives.cut()
            model.cut()
        elif deed == "turn":
            on = chance.choice([True, False])
            drives.turn(drive, on)
            model.on[drive] = on
        else:
            self.fault(chance, drives, model, deed, drive, place, row)

    def fault(self, chance, drives, model, deed, drive, place, row):
        if deed == "lose":
            faults.lose(drives, drive, place)
            model.faults[drive, place] = (None,)
        elif deed == "stray":
            other = chance.randrange(41, 45)
            faults.stray(drives, drive, place, other)
            model.faults[drive, place] = (other,)
        elif deed == "rot":
            at, by = chance.randint(-1, 9), chance.randint(1, 1000002)
            self.assertEqual(refusal(faults.rot, drives, drive, place, at, by), model.rot(drive, place, at, by))
        elif deed == "wipe":
            faults.wipe(drives, drive)
            model.wipe(drive)
        else:
            drives.lay(drive, place, row)
            model.lay(drive, place, row)


if __name__ == "__main__":
    unittest.main()
