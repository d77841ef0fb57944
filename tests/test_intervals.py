import random
import unittest

from bornroots.commit import commit
from bornroots.desk import make_file, unlink, write
from bornroots.drives import Drives
from bornroots.drops import drop
from bornroots.intervals import least_drops
from bornroots.mount import made_pool
from bornroots.roomtold import freed_by
from bornroots.snapshots import clone, snapshot
from bornroots.volumes import destroy, make_volume

from pools import example_pool
from rawpool import raws_of
from rootdeeds import NO_NAMES, Case
from test_drops import chain_pool


def random_pool(seed, many):
    """A volume with so many snapshots, between which some files came, went or were written."""
    chance = random.Random(seed)
    pool = made_pool(Drives(1, 400))
    make_volume(pool, "a")
    for path in ("/a", "/b", "/c"):
        make_file(pool, "a", path)
    for at in range(many):
        for _ in range(chance.randint(0, 2)):
            write(pool, "a", chance.choice(["/a", "/b", "/c"]), chance.choice([0, 9, 17]), [chance.randint(0, 999)])
        snapshot(pool, "a", "abcdefghijklmnop"[at])
    if chance.random() < 0.5:
        unlink(pool, "a", "/a")
        commit(pool)
    return pool


class ExampleTest(Case):
    def test_behind_the_commit_of_5(self):
        pool = example_pool(written=True)
        self.assertEqual([least_drops(pool, "a", wanted) for wanted in (4, 5, 0)], [(1, ("s",)), None, (0, ())])
        for wanted in (1, 2, 3):
            self.assertEqual(least_drops(pool, "a", wanted), (1, ("s",)))
        for wanted in (6, 1000003, 10 ** 30):
            self.assertIsNone(least_drops(pool, "a", wanted))

    def test_without_snapshots(self):
        pool = example_pool()
        self.assertEqual((least_drops(pool, "a", 0), least_drops(pool, "a", 1)), ((0, ()), None))

    def test_pairs_that_only_several_together_free(self):
        pool = example_pool(snap=True)
        snapshot(pool, "a", "t")
        write(pool, "a", "/f", 0, [5])
        commit(pool)
        self.assertEqual(least_drops(pool, "a", 1), (2, ("s", "t")))
        self.assertEqual((least_drops(pool, "a", 4), least_drops(pool, "a", 5)), ((2, ("s", "t")), None))


class SearchTest(Case):
    def every(self, pool, vol="a"):
        raw = raws_of(pool)[0]
        head = next(head for head, (name, _) in raw.volumes.items() if name == vol)
        snaps = [f"{vol}@{raw.roots[ident]['text'].partition('@')[2]}" for ident in raw.droppable()
                 if raw.roots[ident]["volume"] == head]
        whole = freed_by(pool, snaps)
        for wanted in range(whole + 2):
            self.assertEqual(least_drops(pool, vol, wanted), raw.least_drops(head, wanted), (vol, wanted))
        self.assertIsNone(least_drops(pool, vol, whole + 1))
        if whole:
            self.assertIsNotNone(least_drops(pool, vol, whole))
        return whole

    def test_against_all_subsets(self):
        wholes = [self.every(random_pool(seed, 1 + seed % 7)) for seed in range(30)]
        self.assertGreater(max(wholes), 20)

    def test_by_time_and_not_by_name_or_ident(self):
        pool = chain_pool("zyxw")
        raw = raws_of(pool)[0]
        whole = freed_by(pool, ["a@z", "a@y", "a@x", "a@w"])
        self.assertEqual(least_drops(pool, "a", whole), (4, ("z", "y", "x", "w")))
        self.assertEqual(least_drops(pool, "a", 1), (1, ("z",)))
        self.assertEqual(raw.least_drops(1, whole), (4, ("z", "y", "x", "w")))

    def test_the_least_of_several_choices(self):
        pool = made_pool(Drives(1, 100))
        make_volume(pool, "a")
        make_file(pool, "a", "/f")
        for at, name in enumerate("stuv"):
            write(pool, "a", "/f", 0, [at + 1])
            snapshot(pool, "a", name)
        write(pool, "a", "/f", 0, [9])
        commit(pool)
        # Each one alone frees one leaf and the three blocks above it.
        self.assertEqual([least_drops(pool, "a", wanted) for wanted in (1, 4, 5, 8, 9, 16, 17)],
                         [(1, ("s",)), (1, ("s",)), (2, ("s", "t")), (2, ("s", "t")), (3, ("s", "t", "u")),
                          (4, ("s", "t", "u", "v")), None])

    def test_snapshots_with_several_children_are_not_considered(self):
        pool = chain_pool("stuv")
        clone(pool, "a@t", "b")
        write(pool, "b", "/f", 0, [3])
        snapshot(pool, "b", "x")
        write(pool, "b", "/f", 0, [4])
        commit(pool)
        for vol in "ab":
            self.every(pool, vol)
        self.assertNotIn("t", least_drops(pool, "a", freed_by(pool, ["a@s", "a@u", "a@v"]))[1])
        destroy_clone(pool)
        self.assertIn("t", least_drops(pool, "a", freed_by(pool, ["a@s", "a@t", "a@u", "a@v"]))[1])
        self.every(pool)

    def test_ten_and_eleven_snapshots(self):
        for seed in range(3):
            pool = random_pool(seed, 10)
            self.every(pool)
            snapshot(pool, "a", "z")
            for wanted in (0, 1, 10 ** 9):
                self.refused(pool, ("TooMany", 10), least_drops, "a", wanted)
            # One with two children is not considered, so ten are left.
            clone(pool, "a@c", "b")
            self.every(pool)
            self.assertEqual(least_drops(pool, "b", 0), (0, ()))
            drop(pool, "a@d")
            self.every(pool)

    def test_open_deeds_do_not_count(self):
        pool = example_pool(snap=True)
        write(pool, "a", "/f", 0, [5])
        self.assertIsNone(least_drops(pool, "a", 1))
        commit(pool)
        self.assertEqual(least_drops(pool, "a", 1), (1, ("s",)))

    def test_what_the_drops_let_go(self):
        for seed in range(6):
            pool = random_pool(40 + seed, 6)
            for wanted in (1, 6, 11):
                told = least_drops(pool, "a", wanted)
                if told is not None:
                    self.assertEqual(len(told[1]), told[0])
                    self.assertGreaterEqual(freed_by(pool, ["a@" + name for name in told[1]]), wanted)
            told = least_drops(pool, "a", 6)
            if told is not None:
                self.assertGreaterEqual(sum(drop(pool, "a@" + name) for name in told[1]), 6)


def destroy_clone(pool):
    drop(pool, "b@x")
    destroy(pool, "b")


class RefusalTest(Case):
    def test_in_their_order(self):
        pool = example_pool(written=True)
        for name in NO_NAMES:
            self.refused(pool, ("BadName", name), least_drops, name, -1)
        for wanted in (-1, -10 ** 20):
            self.refused(pool, ("BadNumber", wanted), least_drops, "b", wanted)
            self.refused(pool, ("BadNumber", wanted), least_drops, "a", wanted)
        self.refused(pool, ("NoVolume", "b"), least_drops, "b", 0)
        self.refused(pool, ("NoVolume", "s"), least_drops, "s", 10 ** 20)
        self.off(least_drops, "A", -1)
        self.off(least_drops, "a", 0)


if __name__ == "__main__":
    unittest.main()
