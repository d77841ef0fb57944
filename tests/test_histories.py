"""Long rows of deeds, mounts and faults against the plain telling."""

import random
import unittest

from bornroots.drives import Drives
from bornroots.mount import mount
from bornroots.promised import promised_rows
from bornroots.rows import fits

from histories import Story, some_fault


class HistoryTest(unittest.TestCase):
    def test_on_one_drive(self):
        told = {}
        for seed in range(14):
            story = self.history(seed, Drives(1, 200), 150, False)
            for deed, many in story.granted.items():
                told[deed] = told.get(deed, 0) + many
        self.assertGreater(min(told.values()), 8, told)
        self.assertEqual(len(told), 18)

    def test_with_little_room(self):
        refused = {}
        for seed in range(12):
            story = self.history(20 + seed, Drives(1, 40), 120, False)
            for name, many in story.refused.items():
                refused[name] = refused.get(name, 0) + many
        self.assertGreater(min(refused["Quota"], refused["NoRoom"]), 20, refused)

    def test_with_faults_on_the_last_drive(self):
        for seed in range(12):
            self.history(40 + seed, Drives(2 + seed % 2, 100), 90, True)

    def history(self, seed, drives, many, faults):
        chance = random.Random(seed)
        story = Story(self, chance, drives, tag=seed)
        for _ in range(many):
            if chance.random() < 0.08:
                self.again(story)
            if faults and chance.random() < 0.3:
                some_fault(chance, drives, drives.many - 1, ["rot", "rot", "lose", "stray", "wipe", "off"])
            story.one()
            if not faults and chance.random() < 0.3:
                story.whole()
        self.again(story)
        return story

    def again(self, story):
        story.pool = mount(story.drives)
        story.plain.mounted(story.pool)
        story.like()
        # What waited for a write of the mending is met by now, or by that of one of the next mounts.
        begun = None
        while begun != story.drives.begun():
            begun = story.drives.begun()
            story.mount()
        for place, kind, number in promised_rows(story.pool):
            for drive in range(story.drives.many):
                self.assertTrue(fits(story.drives.cell(drive, place), kind, place, number), (place, drive))


class StreamsTest(unittest.TestCase):
    """Streams go between two pools, and from pool to pool again."""

    def test_two_pools(self):
        received = 0
        for seed in range(10):
            chance, streams = random.Random(seed), {}
            stories = [Story(self, chance, Drives(1, 250), tag=tag, streams=streams) for tag in (seed, 100 + seed)]
            for at in range(240):
                story = chance.choice(stories)
                story.one()
                if at % 10 == 0:
                    story.whole()
            received += sum(story.granted.get("receive", 0) for story in stories)
        self.assertGreater(received, 30)


if __name__ == "__main__":
    unittest.main()
