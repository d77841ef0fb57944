import copy
import random
import unittest

from bornroots.desk import make_file, write
from bornroots.drops import drop
from bornroots.faults import lose, rot, stray, wipe
from bornroots.mount import mount
from bornroots.onoff import off
from bornroots.promised import promised_rows
from bornroots.rows import half_of
from bornroots.scrub import scrub

from pools import Told, cells, contents, example_pool, pool_seen
from refusals import OFF, refusal
from rootdeeds import Case


def scrub_pool(many):
    """The pool of the example of 9 on so many drives, with two open deeds."""
    pool = example_pool(many=many, written=True)
    write(pool, "a", "/f", 0, [6])
    make_file(pool, "a", "/g")
    return pool


def spoil(pool, kind, drive, place):
    """Make the row in a cell one that does not fit there."""
    drives = pool.drives
    row = drives.cell(drive, place)
    if kind == "rot":
        rot(drives, drive, place, 2, 1)
    elif kind == "torn":
        drives.lay(drive, place, half_of(row))
    elif kind == "lost":
        drives.lay(drive, place, ())
    else:
        drives.lay(drive, place, drives.cell(drive, 1 if place != 1 else 0))


class ScrubTest(Case):
    def test_the_example(self):
        pool = example_pool(many=2, written=True)
        rot(pool.drives, 0, 45, 0, 1)
        before = cells(example_pool(many=2, written=True).drives)
        self.assertEqual((scrub(pool), scrub(pool)), ((((45, 0),), ()), ((), ())))
        self.assertEqual(cells(pool.drives), before)

    def test_nothing_to_mend(self):
        for many in (1, 2, 3):
            pool = scrub_pool(many)
            told, seen = Told(pool.drives), pool_seen(pool)
            self.assertEqual((scrub(pool), told.lines, pool_seen(pool)), (((), ()), [], seen))

    def test_each_promised_row_on_one_drive_on_all_but_one_and_on_all(self):
        for many, spoilt in ((1, (0,)), (2, (0,)), (2, (1,)), (2, (0, 1)), (3, (1,)), (3, (0, 2)), (3, (0, 1)),
                             (3, (0, 1, 2))):
            pool = scrub_pool(many)
            whole = cells(pool.drives)
            for place, _, _ in promised_rows(pool):
                for kind in ("rot", "torn", "lost", "stray"):
                    other = copy.deepcopy(pool)
                    for drive in spoilt:
                        spoil(other, kind, drive, place)
                    lost = (place,) if len(spoilt) == many else ()
                    mended = () if lost else tuple((place, drive) for drive in spoilt)
                    self.assertEqual(scrub(other), (mended, lost))
                    self.assertEqual(scrub(other), ((), lost))
                    if not lost:
                        self.assertEqual(cells(other.drives), whole)

    def test_rows_that_are_not_promised_are_let_be(self):
        pool = scrub_pool(2)
        promised = [place for place, _, _ in promised_rows(pool)]
        for place in range(81):
            if place not in promised and pool.drives.cell(0, place):
                spoil(pool, "torn", 0, place)
        before = cells(pool.drives)
        self.assertEqual((scrub(pool), cells(pool.drives)), (((), ()), before))

    def test_a_whole_drive(self):
        for many in (2, 3):
            for drive in range(many):
                pool = scrub_pool(many)
                wipe(pool.drives, drive)
                told = Told(pool.drives)
                places = [place for place, _, _ in promised_rows(pool)]
                self.assertEqual(scrub(pool), (tuple((place, drive) for place in places), ()))
                # One flush at the end, and each row on that drive alone.
                self.assertEqual(told.lines[-1], "flush")
                self.assertEqual([line[::2] for line in told.lines[:-1]], [(place, (drive,)) for place in places])
                self.assertEqual(scrub(pool), ((), ()))
                self.assertEqual(contents(mount(pool.drives)), contents(mount(scrub_pool(many).drives)))

    def test_ascending_by_place_and_by_drive(self):
        pool = scrub_pool(3)
        for drive, place in ((2, 45), (0, 45), (1, 41), (1, 33), (0, 33), (2, 50), (0, 22), (1, 12)):
            spoil(pool, "lost", drive, place)
        for drive in range(3):
            spoil(pool, "torn", drive, 46)
        self.assertEqual(scrub(pool), (((12, 1), (33, 0), (33, 1), (41, 1), (45, 0), (45, 2), (50, 2)), (46,)))

    def test_lost_is_told_ahead_of_the_mending(self):
        # 41 strays into 43 of the same drive when it is mended: there it is no row that fits.
        pool = scrub_pool(1)
        spoil(pool, "lost", 0, 47)
        spoil(pool, "torn", 0, 42)
        self.assertEqual(scrub(pool), ((), (42, 47)))
        pool = scrub_pool(2)
        spoil(pool, "lost", 0, 41)
        stray(pool.drives, 0, 41, 43)
        spoil(pool, "lost", 1, 43)
        # When the turn of 43 comes, its last good row is gone: lost ahead of the mending it was not.
        self.assertEqual(scrub(pool), (((41, 0),), ()))
        self.assertEqual(scrub(pool), (((41, 0),), (43,)))
        self.assertEqual(scrub(pool), ((), (43,)))

    def test_a_waiting_lose_or_stray_takes_a_row_that_is_told_all_the_same(self):
        pool = scrub_pool(2)
        for drive, place in ((0, 41), (1, 45)):
            spoil(pool, "rot", drive, place)
        lose(pool.drives, 0, 41)
        stray(pool.drives, 1, 45, 80)
        self.assertEqual(scrub(pool), (((41, 0), (45, 1)), ()))
        self.assertEqual(scrub(pool), (((41, 0), (45, 1)), ()))
        self.assertEqual(scrub(pool), ((), ()))

    def test_drives_that_are_off_are_neither_goals_nor_sources(self):
        pool = scrub_pool(3)
        off(pool, 1)
        for drive in (0, 1):
            spoil(pool, "lost", drive, 41)
        for drive in (0, 2):
            spoil(pool, "lost", drive, 45)
        before = cells(pool.drives)[1]
        self.assertEqual(scrub(pool), (((41, 0),), (45,)))
        self.assertEqual(cells(pool.drives)[1], before)
        # The mount looks at all drives: nothing is lost for it.
        pool = mount(pool.drives)
        self.assertEqual(scrub(pool), ((), ()))

    def test_waiting_blocks_of_the_elder_are_promised(self):
        pool = example_pool(many=2, written=True)
        drop(pool, "a@s")
        spoil(pool, "rot", 1, 47)
        self.assertEqual(scrub(pool), (((47, 1),), ()))
        drop_again = example_pool(many=2, snap=True)
        drop(drop_again, "a@s")
        self.assertEqual(scrub(drop_again), ((), ()))

    def test_the_power_goes_at_each_write(self):
        for mask in (0, (3 ** 30 - 1) // 2, 3 ** 30 - 1, 7):
            pool = scrub_pool(2)
            wipe(pool.drives, 0)
            told = contents(pool)
            writes = len(promised_rows(pool))
            for count in range(1, writes + 1):
                other = copy.deepcopy(pool)
                other.drives.arm(count, mask)
                self.refused_off(other)
                again = mount(other.drives)
                self.assertEqual(contents(again), told)
                self.assertEqual(scrub(again), ((), ()))

    def refused_off(self, pool):
        self.assertEqual(refusal(scrub, pool), OFF)
        self.assertFalse(pool.drives.has_power())

    def test_off(self):
        self.off(scrub)

    def test_many_faults_by_chance(self):
        for seed in range(60):
            chance = random.Random(seed)
            pool = scrub_pool(1 + seed % 3)
            drives, rows = pool.drives, promised_rows(pool)
            spoilt = {}
            for place, _, _ in chance.sample(rows, 12):
                for drive in range(drives.many):
                    if chance.random() < 0.5:
                        spoil(pool, chance.choice(["rot", "torn", "lost", "stray"]), drive, place)
                        spoilt.setdefault(place, []).append(drive)
            if drives.many > 1 and chance.random() < 0.5:
                off(pool, chance.randrange(drives.many))
            on = drives.drives_on()
            lost = [place for place in sorted(spoilt) if all(drive in spoilt[place] for drive in on)]
            mended = [(place, drive) for place in sorted(spoilt) for drive in spoilt[place]
                      if drive in on and place not in lost]
            self.assertEqual(scrub(pool), (tuple(mended), tuple(lost)))
            self.assertEqual(scrub(pool), ((), tuple(lost)))


if __name__ == "__main__":
    unittest.main()
