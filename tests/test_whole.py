"""Long rows of deeds of all kinds, with faults, drives off and on, cuts and mounts, beside the plain telling."""

import copy
import random
import unittest

from bornroots.desk import write
from bornroots.drives import Drives
from bornroots.errors import Off
from bornroots.onoff import off, on
from bornroots.parcels import checked, sent
from bornroots.promised import promised_rows
from bornroots.receiving import receive
from bornroots.roomtold import freed_by, freed_pairs
from bornroots.saysfiles import says_files
from bornroots.saysroots import says_roots
from bornroots.sayswords import words_of
from bornroots.scrub import scrub
from bornroots.touched import touched_keys
from bornroots.views import names, read

from drivesmodel import good
from histories import FILES, Story, call, some_fault
from pools import all_seen
from rawpool import check_papers
from refusals import OFF, refusal
from test_promotes import long_pool

WORDS = {"file": "make_file", "folder": "make_folder", "cut": "cut_to"}


def fits(row, kind, place, number):
    return good(row) and row[:3] == (kind, place, number)


class CaredStory(Story):
    """A story in which one drive stays whole and on; all faults come to the others, which go off and on."""

    def __init__(self, test, chance, drives, healthy, *, awaiting=True):
        Story.__init__(self, test, chance, drives)
        self.healthy, self.awaiting = healthy, awaiting
        self.sick = [drive for drive in range(drives.many) if drive != healthy]
        self.cared = {"scrub": 0, "off": 0, "on": 0, "refused": 0, "cut": 0, "mended": 0}

    def step(self):
        """A fault, some care, an arm or a mount by chance, then a deed."""
        chance = self.chance
        if self.sick and chance.random() < 0.3:
            self.fault(chance.choice(self.sick))
        if chance.random() < 0.15:
            self.drives.arm(chance.randint(1, 30), chance.randrange(3 ** 40))
        if chance.random() < 0.3:
            self.care()
        if chance.random() < 0.03:
            self.mount()
        self.one()

    def fault(self, drive):
        kinds = ["rot", "rot", "rot", "lose", "stray", "wipe"] if self.awaiting else ["rot"]
        some_fault(self.chance, self.drives, drive, kinds)

    def care(self):
        away = [drive for drive in self.sick if not self.drives.is_on(drive)]
        if self.chance.random() < 0.3:
            self.drives.arm(self.chance.randint(1, 6), self.chance.randrange(3 ** 40))
        if away and self.chance.random() < 0.4:
            self.turn(on, self.chance.choice(away))
        elif self.chance.random() < 0.5:
            self.scrub()
        else:
            self.turn(self.chance.choice([off, off, on]), self.chance.choice([*3 * self.sick, -1, self.drives.many]))

    def lacking(self, drives):
        """The (place, drive) of the promised rows that do not fit."""
        return tuple((place, drive) for place, kind, number in promised_rows(self.pool) for drive in drives
                     if not fits(self.drives.cell(drive, place), kind, place, number))

    def scrub(self):
        lacking = self.lacking(self.drives.drives_on())
        told = self.cared_for("scrub", scrub)
        if told is None:
            return
        self.cared["mended"] += len(told[0])
        self.test.assertEqual(told[1], ())
        if not self.awaiting:
            self.test.assertEqual(told[0], lacking)
            self.test.assertEqual(scrub(self.pool), ((), ()))

    def turn(self, deed, drive):
        drives, name = self.drives, deed.__name__
        expected = None
        if drive not in range(drives.many):
            expected = ("BadNumber", drive)
        elif drives.is_on(drive) == (deed is on):
            expected = ("AlreadyOn" if deed is on else "AlreadyOff", drive)
        if expected:
            before = all_seen(self.pool)
            self.test.assertEqual(refusal(deed, self.pool, drive), expected)
            self.test.assertEqual(all_seen(self.pool), before)
            self.cared["refused"] += 1
            return
        lacking = self.lacking([drive])
        told = self.cared_for(name, deed, drive)
        if told is not None and not self.awaiting:
            self.test.assertEqual([(place, drive) for place in told], list(lacking))

    def cared_for(self, name, deed, *given):
        """What a care tells; None if the power went in it, by which nothing is lost."""
        try:
            told = deed(self.pool, *given)
        except Off:
            self.cared["cut"] += 1
            self.test.assertEqual(refusal(deed, self.pool, *given), OFF)
            self.pool = self.mounted()
            self.plain.mounted(self.pool)
            self.whole()
            return None
        self.cared[name] += 1
        return told


class WholeTest(unittest.TestCase):
    def test_rows_with_all_kinds_of_faults(self):
        self.rows(700, 30, True)

    def test_rows_with_rot_alone(self):
        self.rows(800, 30, False)

    def rows(self, begin, many, awaiting):
        cared, cuts = {}, 0
        for seed in range(begin, begin + many):
            chance = random.Random(seed)
            drives = Drives(1 + seed % 3, chance.choice([60, 120, 200]))
            story = CaredStory(self, chance, drives, chance.choice([0, drives.many - 1]), awaiting=awaiting)
            for at in range(90):
                story.step()
                if at % 10 == 0:
                    story.whole()
                    check_papers(self, story.pool, chance)
            story.mount()
            cuts += story.cuts
            for name, times in story.cared.items():
                cared[name] = cared.get(name, 0) + times
        self.assertGreater(min(*cared.values(), cuts), 10, cared)

    def test_lines_do_what_calls_do(self):
        said = 0
        for seed in range(6):
            chance = random.Random(900 + seed)
            story = Story(self, chance, Drives(1, 150))
            for _ in range(60):
                deed = story.plain.some_deed(chance)
                if deed[0] != "receive":
                    said += self.line(story.pool, deed)
                story.one()
        self.assertGreater(said, 150)

    def line(self, pool, deed):
        """Whether the deed is granted; its line does the same as its call."""
        name, *given = deed
        words = [WORDS.get(name, name)]
        for word in given:
            words += [str(one) for one in word] if isinstance(word, list) else [str(word)]
        one, other = copy.deepcopy(pool), copy.deepcopy(pool)
        says = says_files if name in FILES or name == "commit" else says_roots
        refused = refusal(call, one, *deed)
        if refused is not None:
            self.assertEqual(refusal(says, other, " ".join(words)), refused)
        else:
            again = copy.deepcopy(pool)
            self.assertEqual(says(other, " ".join(words)), repr(call(again, *deed)))
        self.assertEqual(all_seen(one), all_seen(other))
        return refused is None


class SpoiltTest(unittest.TestCase):
    """What is told may be spoilt, and so may be what was handed in: the pool stays as it is."""

    def test_lists_and_dicts_that_are_told(self):
        pool = long_pool()
        before, roots = all_seen(pool), pool.root.book.roots
        for tell in (lambda: freed_pairs(pool.root, [2]), lambda: touched_keys(pool.root, roots[2], roots[1]),
                     lambda: pool.records_of(roots[1]), lambda: promised_rows(pool), lambda: read(pool, "a", "/f", 0, 9),
                     lambda: names(pool, "a", "/"), lambda: checked(sent(pool, "a@s"))[2], lambda: words_of("a b")):
            told = tell()
            whole = copy.copy(told)
            self.assertTrue(told)
            told.clear()
            self.assertEqual(tell(), whole)
        self.assertEqual(all_seen(pool), before)

    def test_what_is_handed_in(self):
        pool = long_pool()
        values, roots = [1, 2, 3], ["a@s", "a"]
        stream = [list(parcel) for parcel in sent(pool, "a@s")]
        write(pool, "a", "/f", 0, values)
        freed_by(pool, roots)
        receive(pool, stream, "d", "s")
        self.assertEqual((values, roots), ([1, 2, 3], ["a@s", "a"]))
        before = all_seen(pool)
        for handed in (values, roots, *stream, stream):
            handed.clear()
        self.assertEqual(all_seen(pool), before)
        self.assertEqual((read(pool, "a", "/f", 0, 3), read(pool, "d@s", "/f", 0, 3)), ([1, 2, 3], []))


if __name__ == "__main__":
    unittest.main()
