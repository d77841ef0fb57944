import copy
import random
import unittest

from bornroots.commit import commit
from bornroots.desk import make_file, write
from bornroots.drives import Drives
from bornroots.faults import lose, rot, stray, wipe
from bornroots.mount import made_pool, mount
from bornroots.onoff import off, on
from bornroots.promised import promised_rows
from bornroots.rows import fits
from bornroots.scrub import scrub
from bornroots.views import read
from bornroots.volumes import make_volume

from histories import Story
from pools import Told, cells, contents, example_pool, pool_seen
from refusals import OFF, refusal
from rootdeeds import Case


class OffTest(Case):
    def test_writes_pass_it_by(self):
        pool = example_pool(many=2, snap=True)
        seen, before = pool_seen(pool), cells(pool.drives)
        told = Told(pool.drives)
        self.assertIsNone(off(pool, 1))
        self.assertEqual((pool.drives.drives_on(), told.lines, pool_seen(pool)), ((0,), [], seen))
        write(pool, "a", "/f", 0, [5])
        commit(pool)
        self.assertEqual(cells(pool.drives)[1], before[1])
        self.assertNotEqual(cells(pool.drives)[0], before[0])

    def test_open_deeds_stay_open(self):
        pool = example_pool(many=2, snap=True)
        write(pool, "a", "/f", 0, [5])
        off(pool, 0)
        make_file(pool, "a", "/g")
        self.assertEqual((len(pool.opened), read(pool, "a", "/f", 0, 9)), (2, [5]))
        self.assertEqual([fits(pool.drives.cell(drive, 34), 3, 34, 4) for drive in (0, 1)], [False, True])
        self.assertEqual(contents(mount(pool.drives))["a"][9], (5, 0, 0, 0, 0, 0, 0, 0))

    def test_refusals_in_their_order(self):
        for many in (1, 2, 3):
            pool = example_pool(many=many, snap=True)
            for drive in (-1, many, many + 1, 1000002):
                self.refused(pool, ("BadNumber", drive), off, drive)
            for drive in range(many - 1):
                off(pool, drive)
                self.refused(pool, ("AlreadyOff", drive), off, drive)
            self.refused(pool, ("LastDrive", many - 1), off, many - 1)
            self.refused(pool, ("BadNumber", many), off, many)
        self.off(off, 7)
        self.off(off, 0)


class OnTest(Case):
    def test_the_example(self):
        pool = example_pool(many=2, snap=True)
        off(pool, 1)
        write(pool, "a", "/f", 0, [5])
        commit(pool)
        self.assertEqual(on(pool, 1), (11, 12, 42, 43, 44, 51, 52))
        self.assertEqual(pool.drives.drives_on(), (0, 1))
        # The log row of the commit is promised no more, so it is the only one that differs.
        self.assertEqual([place for place in range(81)
                          if pool.drives.cell(0, place) != pool.drives.cell(1, place)], [33])
        self.assertEqual(scrub(pool), ((), ()))

    def test_with_nothing_missed(self):
        pool = example_pool(many=2, written=True)
        off(pool, 0)
        told = Told(pool.drives)
        self.assertEqual((on(pool, 0), told.lines, pool.drives.drives_on()), ((), [], (0, 1)))

    def test_open_deeds(self):
        pool = example_pool(many=2, written=True)
        write(pool, "a", "/f", 0, [6])
        off(pool, 0)
        make_file(pool, "a", "/g")
        write(pool, "a", "/g", 0, [6])
        self.assertEqual(on(pool, 0), (34, 35))
        self.assertEqual(len(pool.opened), 3)

    def test_refusals_in_their_order(self):
        pool = example_pool(many=2, snap=True)
        for drive in (-1, 2, 3):
            self.refused(pool, ("BadNumber", drive), on, drive)
        for drive in (0, 1):
            self.refused(pool, ("AlreadyOn", drive), on, drive)
        off(pool, 0)
        self.refused(pool, ("AlreadyOn", 1), on, 1)
        self.refused(pool, ("BadNumber", -1), on, -1)
        self.off(on, 7)
        self.off(on, 0)

    def test_a_row_that_fits_on_no_source(self):
        pool = example_pool(many=2, snap=True)
        off(pool, 1)
        write(pool, "a", "/f", 0, [5])
        commit(pool)
        rot(pool.drives, 0, 43, 0, 1)
        rot(pool.drives, 1, 45, 0, 1)
        rot(pool.drives, 0, 45, 0, 1)
        # 41 fits on the goal alone: it is no source, and the drive that is on is no goal.
        rot(pool.drives, 0, 41, 0, 1)
        self.assertEqual(on(pool, 1), (11, 12, 42, 44, 51, 52))
        self.assertEqual(scrub(pool), (((41, 0),), (43, 45)))

    def test_two_drives_in_either_order(self):
        for order in ((1, 2), (2, 1)):
            pool = example_pool(many=3, snap=True)
            off(pool, 1)
            write(pool, "a", "/f", 0, [5])
            off(pool, 2)
            commit(pool)
            write(pool, "a", "/f", 0, [6])
            missed = {1: (11, 12, 33, 42, 43, 44, 51, 52), 2: (11, 12, 33, 42, 43, 44, 51, 52)}
            for drive in order:
                self.assertEqual(on(pool, drive), missed[drive])
            self.assertEqual((scrub(pool), pool.drives.drives_on()), (((), ()), (0, 1, 2)))

    def test_only_drives_that_are_on_are_sources(self):
        pool = example_pool(many=3, snap=True)
        off(pool, 1)
        off(pool, 2)
        rot(pool.drives, 0, 41, 0, 1)
        rot(pool.drives, 1, 41, 0, 1)
        self.assertEqual((on(pool, 1), on(pool, 2)), ((), ()))
        self.assertEqual(scrub(pool), (((41, 0), (41, 1)), ()))

    def test_a_wiped_drive(self):
        pool = example_pool(many=2, written=True)
        off(pool, 1)
        wipe(pool.drives, 1)
        told = Told(pool.drives)
        places = [place for place, _, _ in promised_rows(pool)]
        self.assertEqual(on(pool, 1), tuple(places))
        self.assertEqual([line[::2] for line in told.lines[:-1]], [(place, (1,)) for place in places])
        self.assertEqual((told.lines[-1], scrub(pool)), ("flush", ((), ())))

    def test_a_waiting_lose_or_stray(self):
        pool = example_pool(many=2, snap=True)
        off(pool, 1)
        write(pool, "a", "/f", 0, [5])
        commit(pool)
        lose(pool.drives, 1, 42)
        stray(pool.drives, 1, 51, 79)
        self.assertEqual(on(pool, 1), (11, 12, 42, 43, 44, 51, 52))
        self.assertEqual(scrub(pool), (((42, 1), (51, 1)), ()))

    def test_it_gets_exactly_what_it_missed(self):
        for seed in range(25):
            chance = random.Random(600 + seed)
            story = Story(self, chance, Drives(2 + seed % 2, 150))
            for _ in range(30):
                story.one()
            off_first = chance.randrange(story.drives.many)
            off(story.pool, off_first)
            told = Told(story.drives)
            for _ in range(chance.choice([1, 5, 30, 60])):
                story.one()
            missed = {line[:2] for line in told.lines if line != "flush"}
            kept = {(place, story.drives.cell(other, place)) for other in story.drives.drives_on()
                    for place, _, _ in promised_rows(story.pool)}
            places = sorted(place for place, row in missed & kept)
            self.assertEqual(on(story.pool, off_first), tuple(places))
            self.assertEqual(scrub(story.pool), ((), ()))
            story.whole()

    def test_the_power_goes_at_each_write(self):
        pool = example_pool(many=2, snap=True)
        off(pool, 0)
        write(pool, "a", "/f", 0, [5])
        commit(pool)
        write(pool, "a", "/f", 1, [6])
        told = contents(pool)
        for mask in (0, (3 ** 9 - 1) // 2, 3 ** 9 - 1, 7):
            for count in range(1, 9):
                other = copy.deepcopy(pool)
                other.drives.arm(count, mask)
                self.assertEqual(refusal(on, other, 0), OFF)
                self.assertEqual((other.drives.has_power(), other.drives.is_on(0)), (False, False))
                again = mount(other.drives)
                self.assertEqual((contents(again), again.drives.drives_on()), (told, (0, 1)))
                self.assertEqual(scrub(again), ((), ()))
        self.assertEqual(on(pool, 0), (11, 12, 33, 42, 43, 44, 51, 52))

    def test_a_mount_turns_all_drives_on(self):
        pool = example_pool(many=3, snap=True)
        off(pool, 0)
        off(pool, 2)
        make_volume(pool, "b")
        pool = mount(pool.drives)
        self.assertEqual((pool.drives.drives_on(), scrub(pool)), ((0, 1, 2), ((), ())))
        off(pool, 1)
        self.assertEqual(made_pool(pool.drives).drives.drives_on(), (0, 1, 2))

    def test_the_drive_that_was_on_may_go(self):
        pool = example_pool(many=2, snap=True)
        off(pool, 1)
        write(pool, "a", "/f", 0, [5])
        commit(pool)
        on(pool, 1)
        off(pool, 0)
        wipe(pool.drives, 0)
        write(pool, "a", "/f", 1, [6])
        told = contents(pool)
        self.assertEqual((contents(mount(pool.drives)), told["a"][9][:2]), (told, (5, 6)))


if __name__ == "__main__":
    unittest.main()
