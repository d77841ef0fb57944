"""The power goes at each write of rows of deeds and of mounts: what was granted is there behind the next mount."""

import copy
import random
import unittest

from bornroots.drives import Drives
from bornroots.faults import rot, wipe
from bornroots.mount import made_pool, mount
from bornroots.parcels import sent
from bornroots.promised import promised_rows

from histories import Plain, Story, call, pool_told
from pools import check_pool
from refusals import OFF, refusal

ALL = 3 ** 40
MASKS = (0, (ALL - 1) // 2, ALL - 1, 1 + 2 * 3 + 2 * 27 + 81 * 3, 2 + 9 + 243 * 2)
ROW = [
    ("make_volume", "a"), ("folder", "a", "/d"), ("file", "a", "/d/f"), ("write", "a", "/d/f", 6, [1, 2, 3, 4]),
    ("snapshot", "a", "s"), ("link", "a", "/d/f", "/g"), ("cut", "a", "/g", 7), ("commit",), ("file", "a", "/h"),
    ("clone", "a@s", "b"), ("unlink", "b", "/d/f"), ("write", "a", "/h", 0, [9]), ("write", "a", "/h", 0, [8]),
    ("write", "a", "/h", 0, [8]), ("move", "b", "/d", "/e"), ("write", "a", "/h", 1, [7]), ("cut", "a", "/h", 1),
    ("file", "b", "/e/x"), ("file", "b", "/e/y"), ("folder", "b", "/e/z"), ("snapshot", "b", "t"),
    ("unlink", "b", "/e/x"), ("rollback", "b"), ("set_quota", "b", 60), ("unlink", "a", "/h"), ("make_volume", "c"),
    ("file", "c", "/x"), ("destroy", "c"), ("rollback", "a"), ("write", "b", "/e/x", 0, [3]), ("promote", "b"),
    ("snapshot", "a", "u"), ("promote", "a"), ("file", "a", "/z"), ("drop", "a@u"), ("drop", "b@t"), ("rewind",),
    ("rewind",), ("file", "a", "/y"), ("rewind",), ("unlink", "b", "/e/x"), ("receive", "full", "c", "x"),
    ("receive", "more", "c", "y"), ("cut", "b", "/e/y", 1), ("drop", "c@x"),
]


def row_begun():
    """(ROW with the streams in the place of their names, a plain telling that knows them)."""
    pool, plain, given = made_pool(Drives(1, 60), tag=9), Plain(7), {}
    for name, deeds in (("full", [("make_volume", "a"), ("file", "a", "/q"), ("snapshot", "a", "s")]),
                        ("more", [("write", "a", "/q", 3, [4]), ("snapshot", "a", "t")])):
        other = Plain(9)
        for deed in deeds:
            call(pool, *deed)
        given[name] = sent(pool, deeds[-1][1] + "@" + deeds[-1][2], base="a@s" if name == "more" else None)
        for deed in [("make_volume", "a"), ("file", "a", "/q"), *([("write", "a", "/q", 3, [4])] * (name == "more"))]:
            other.do(*deed)
        plain.streams[given[name]] = other.volumes["a"].head
    row = [deed if deed[0] != "receive" else (deed[0], given[deed[1]], *deed[2:]) for deed in ROW]
    return row, plain


def writes_of(pool, deed):
    """How many writes a deed begins."""
    pool = copy.deepcopy(pool)
    begun = pool.drives.begun()
    call(pool, *deed)
    return pool.drives.begun() - begun


class LossTest(unittest.TestCase):
    def test_each_write_of_a_row_on_one_drive(self):
        self.row(1, MASKS)

    def test_each_write_of_a_row_on_two_drives(self):
        self.row(2, MASKS[1:])

    def row(self, many, masks):
        pool = made_pool(Drives(many, 80), tag=7)
        row, plain = row_begun()
        for deed in row:
            before = plain.all()
            self.assertIsNone(plain.refusal(*deed))
            plain.do(*deed)
            for count in range(1, writes_of(pool, deed) + 1):
                for mask in masks:
                    self.cut(copy.deepcopy(pool), deed, count, mask, before, plain.all())
            call(pool, *deed)
            check_pool(self, pool)
            self.assertEqual(pool_told(pool), plain.all())

    def cut(self, pool, deed, count, mask, before, after):
        drives = pool.drives
        drives.arm(count, mask)
        self.assertEqual(refusal(call, pool, *deed), OFF)
        self.assertFalse(drives.has_power())
        self.assertEqual(refusal(call, pool, *deed), OFF)
        again = mount(drives)
        told = pool_told(again)
        self.assertIn(told, (before, after), (deed, count, mask))
        check_pool(self, again)
        begun = drives.begun()
        self.assertEqual(pool_told(mount(drives)), told)
        self.assertEqual(drives.begun(), begun)

    def test_the_last_write_whole_counts_and_the_first_one_not_at_all_does_not(self):
        for many in (1, 2):
            pool = made_pool(Drives(many, 80), tag=7)
            row, plain = row_begun()
            for deed in row:
                before, writes = plain.all(), writes_of(pool, deed)
                plain.do(*deed)
                for count, mask, told in ((writes, 0, plain.all()), (1, MASKS[1], before)):
                    other = copy.deepcopy(pool)
                    other.drives.arm(count, mask)
                    self.assertEqual(refusal(call, other, *deed), OFF)
                    self.assertEqual(pool_told(mount(other.drives)), told)
                call(pool, *deed)


class MountLossTest(unittest.TestCase):
    """The power goes in the settling and the mending, too."""

    def test_each_write_of_a_mount(self):
        for mask in MASKS:
            pool, plain = made_pool(Drives(2, 60), tag=7), Plain(7)
            for deed in ROW[:20]:
                plain.do(*deed)
                call(pool, *deed)
            wipe(pool.drives, 1)
            other = copy.deepcopy(pool.drives)
            mount(other)
            writes = other.begun() - pool.drives.begun()
            self.assertGreater(writes, 50)
            for count in range(1, writes + 1):
                drives = copy.deepcopy(pool.drives)
                drives.arm(count, mask)
                self.assertEqual(refusal(mount, drives), OFF)
                self.assertFalse(drives.has_power())
                again = mount(drives)
                self.assertEqual(pool_told(again), plain.all())
                check_pool(self, again)

    def test_the_arm_goes_on_counting(self):
        pool = made_pool(Drives(1, 60))
        call(pool, "make_volume", "a")
        call(pool, "file", "a", "/f")
        other = copy.deepcopy(pool.drives)
        mount(other)
        writes = other.begun() - pool.drives.begun()
        pool.drives.arm(writes + 1, 0)
        again = mount(pool.drives)
        self.assertEqual(refusal(call, again, "file", "a", "/g"), OFF)
        self.assertEqual(pool_told(mount(pool.drives)), {"a": {"/": ["f", "g"], "/f": (1, []), "/g": (1, [])}})

    def test_each_write_of_taking_up_the_elder(self):
        pool, plain, elder = made_pool(Drives(2, 60), tag=7), Plain(7), None
        for deed in ROW[:7]:
            # The link and the cut behind the snapshot are open, and committed as one transaction.
            elder = plain.all() if deed[0] == "link" else elder
            plain.do(*deed)
            call(pool, *deed)
        call(pool, "commit")
        wipe(pool.drives, 1)
        whole = copy.deepcopy(pool.drives)
        self.assertEqual(pool_told(mount(whole, elder=True)), elder)
        writes = whole.begun() - pool.drives.begun()
        for mask in MASKS:
            for count in range(1, writes + 1):
                drives = copy.deepcopy(pool.drives)
                drives.arm(count, mask)
                self.assertEqual(refusal(mount, drives, elder=True), OFF)
                again = mount(drives)
                self.assertIn(pool_told(again), (elder, plain.all()))
                check_pool(self, again)


class HistoryTest(unittest.TestCase):
    """Rows of deeds by chance, in which power goes at any write, and drives are rotted, wiped and turned off."""

    def test_rows(self):
        cuts = 0
        for seed in range(40):
            cuts += self.history(random.Random(seed), Drives(1 + seed % 3, 60 + seed))
        self.assertGreater(cuts, 200)

    def history(self, chance, drives):
        story = Story(self, chance, drives)
        for _ in range(80):
            if chance.random() < 0.2:
                self.fault(chance, story.pool)
            if chance.random() < 0.25:
                drives.arm(chance.randint(1, 25), chance.choice([*MASKS, chance.randrange(ALL)]))
            story.one()
        story.like()
        return story.cuts

    def fault(self, chance, pool):
        """A fault that leaves each promised row good on some drive."""
        drives = pool.drives
        drive = chance.randrange(drives.many)
        kind = chance.choice(["rot", "rot", "rot", "wipe", "off"])
        rows = promised_rows(pool)
        others = tuple(other for other in range(drives.many) if other != drive)
        if kind == "rot":
            place = chance.choice(rows)[0]
            held = [row for row in rows if row[0] == place]
            if all(drives.fitting(*row, only=others) is not None for row in held):
                refusal(rot, drives, drive, place, chance.randrange(5), chance.randint(1, 1000002))
        elif kind == "wipe" and all(drives.fitting(*row, only=others) is not None for row in rows):
            wipe(drives, drive)
        elif kind == "off" and drives.drives_on() not in ((), (drive,)):
            drives.turn(drive, not drives.is_on(drive))


if __name__ == "__main__":
    unittest.main()
