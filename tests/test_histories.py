"""Long rows of deeds, mounts and faults against the plain telling."""

import random
import unittest

from bornroots.drives import Drives
from bornroots.faults import lose, rot, stray, wipe
from bornroots.mount import made_pool, mount
from bornroots.promised import promised_rows
from bornroots.rows import fits, is_good

from histories import FILES, Plain, call, pool_told
from pools import all_seen, check_pool
from refusals import refusal

BY_ROOM = ("Quota", "NoRoom", "BookFull")


class HistoryTest(unittest.TestCase):
    def test_on_one_drive(self):
        for seed in range(12):
            self.history(seed, Drives(1, 150), 120, False)

    def test_with_little_room(self):
        for seed in range(12):
            self.history(20 + seed, Drives(1, 40), 120, False)

    def test_with_faults_on_the_last_drive(self):
        for seed in range(12):
            self.history(40 + seed, Drives(2 + seed % 2, 100), 90, True)

    def history(self, seed, drives, many, faults):
        chance, plain = random.Random(seed), Plain()
        pool = made_pool(drives, tag=seed)
        last = pool.last
        for _ in range(many):
            if chance.random() < 0.08:
                pool = self.again(pool, plain)
            if faults and chance.random() < 0.3:
                self.fault(chance, drives)
            deed = plain.some_deed(chance)
            self.one(pool, plain, deed, seed)
            self.assertGreaterEqual(pool.last, last)
            last = pool.last
            if not faults:
                check_pool(self, pool)
        self.assertEqual(pool_told(pool), plain.all())
        self.again(pool, plain)

    def one(self, pool, plain, deed, seed):
        expected, before = plain.refusal(*deed), all_seen(pool)
        opened, committed = len(pool.opened), pool.last
        told = refusal(call, pool, *deed)
        if told is not None:
            if expected is not None or told[0] not in BY_ROOM:
                self.assertEqual(told, expected, (seed, deed))
            self.assertEqual(all_seen(pool), before, (seed, deed))
            return
        self.assertIsNone(expected, (seed, deed))
        plain.do(*deed)
        self.assertEqual(len(pool.opened), opened % 8 + 1 if deed[0] in FILES else 0)
        numbers = (1 if opened == 8 else 0) if deed[0] in FILES else bool(opened) + (deed[0] != "commit")
        self.assertEqual(pool.last - committed, numbers)
        if deed[0] in FILES:
            root = deed[1]
            self.assertEqual(pool_told(pool)[root], plain.all()[root], (seed, deed))

    def again(self, pool, plain):
        drives, opened, root = pool.drives, len(pool.opened), pool.root.number
        pool = mount(drives)
        self.assertEqual(pool.root.ahead if opened else pool.root.number, root)
        self.assertEqual(pool_told(pool), plain.all())
        # What waited for a write of the mending is met by now, or by that of one of the next mounts.
        begun = drives.begun()
        while True:
            pool = mount(drives)
            if drives.begun() == begun:
                break
            begun = drives.begun()
        self.assertEqual(pool_told(pool), plain.all())
        check_pool(self, pool)
        for place, kind, number in promised_rows(pool):
            for drive in range(drives.many):
                self.assertTrue(fits(drives.cell(drive, place), kind, place, number), (place, drive))
        return pool

    def fault(self, chance, drives):
        drive, places = drives.many - 1, range(41 + drives.room)
        kind = chance.choice(["rot", "rot", "lose", "stray", "wipe", "off"])
        place = chance.choice(places)
        if kind == "rot":
            good = [at for at in places if is_good(drives.cell(drive, at))]
            if good:
                rot(drives, drive, chance.choice(good), chance.randrange(5), chance.randint(1, 1000002))
        elif kind == "lose":
            lose(drives, drive, place)
        elif kind == "stray":
            stray(drives, drive, place, chance.choice(places))
        elif kind == "wipe" and chance.random() < 0.2:
            wipe(drives, drive)
        elif kind == "off":
            drives.turn(drive, not drives.is_on(drive))


if __name__ == "__main__":
    unittest.main()
