import random
import unittest

from bornroots.commit import commit
from bornroots.desk import make_file, unlink, write
from bornroots.drives import Drives
from bornroots.drops import drop
from bornroots.mount import made_pool, mount
from bornroots.promotes import promote
from bornroots.rewinds import rewind
from bornroots.roomtold import free_cells, freed_by, freed_pairs, referred, room, unique, used, written
from bornroots.snapshots import clone, rollback, snapshot
from bornroots.volumes import destroy, make_volume, set_quota

from histories import Story
from pools import example_pool
from rawpool import check_answers, raws_of
from rootdeeds import NO_NAMES, Case
from test_promotes import long_pool
from test_snapshots import NO_ROOTS

OF_A_ROOT = (referred, written, unique)


class ExampleTest(Case):
    def test_behind_the_commit_of_5(self):
        pool = example_pool(written=True)
        self.assertEqual((written(pool, "a@s"), written(pool, "a")), (7, 5))
        self.assertEqual((unique(pool, "a@s"), unique(pool, "a")), (4, 5))
        self.assertEqual((referred(pool, "a@s"), referred(pool, "a")), (7, 8))
        self.assertEqual((freed_by(pool, ("a@s", "a")), used(pool, "a"), room(pool)), (12, 12, (12, 0, 28)))
        self.assertEqual(free_cells(pool), tuple(range(53, 81)))

    def test_two_snapshots_without_a_change_between(self):
        pool = example_pool(snap=True)
        snapshot(pool, "a", "t")
        write(pool, "a", "/f", 0, [5])
        commit(pool)
        self.assertEqual((unique(pool, "a@s"), unique(pool, "a@t"), freed_by(pool, ["a@s", "a@t"])), (0, 0, 4))
        check_answers(self, pool)

    def test_the_examples_of_9(self):
        for deed, given, expected in ((drop, ("a@s",), (8, 4, 28)), (rollback, ("a",), (7, 5, 28))):
            pool = example_pool(written=True)
            deed(pool, *given)
            self.assertEqual(room(pool), expected)
        pool = example_pool(written=True)
        clone(pool, "a@s", "b")
        self.assertEqual((used(pool, "a"), used(pool, "b"), written(pool, "b"), unique(pool, "b")), (12, 0, 0, 0))
        promote(pool, "b")
        self.assertEqual((used(pool, "a"), used(pool, "b"), written(pool, "b@s")), (5, 7, 7))

    def test_an_empty_pool(self):
        for many in (8, 400):
            pool = made_pool(Drives(1, many))
            self.assertEqual((room(pool), free_cells(pool)), ((0, 0, many), tuple(range(41, 41 + many))))
            self.assertEqual((freed_by(pool, ()), freed_pairs(pool.root, [])), (0, []))


class RoomTest(Case):
    def test_behind_every_kind_of_deed(self):
        pool = made_pool(Drives(1, 150), tag=3)
        for deed, given in ((make_volume, ("a",)), (make_file, ("a", "/f")), (commit, ()), (snapshot, ("a", "s")),
                            (write, ("a", "/f", 0, [1])), (snapshot, ("a", "t")), (clone, ("a@s", "b")),
                            (write, ("b", "/f", 9, [2])), (unlink, ("a", "/f")), (commit, ()), (promote, ("b",)),
                            (set_quota, ("b", 90)), (drop, ("a@t",)), (rewind, ()), (make_volume, ("c",)),
                            (destroy, ("c",)), (rollback, ("a",)), (snapshot, ("b", "z"))):
            deed(pool, *given)
            check_answers(self, pool)
        pool = mount(pool.drives)
        check_answers(self, pool)

    def test_long_rows(self):
        for seed in range(6):
            story = Story(self, random.Random(100 + seed), Drives(1, 300))
            for at in range(120):
                story.one()
                if at % 4 == 0:
                    check_answers(self, story.pool)

    def test_room_and_the_sum_of_used(self):
        pool = long_pool()
        self.assertEqual(sum(used(pool, vol) for vol in "abc"), room(pool)[0])
        self.assertEqual(sum(room(pool)), 40)

    def test_waiting_cells_go_and_come(self):
        pool = example_pool(written=True)
        drop(pool, "a@s")
        self.assertEqual((room(pool), free_cells(pool)), ((8, 4, 28), tuple(range(53, 81))))
        commit(pool, always=True)
        self.assertEqual((room(pool), free_cells(pool)), ((8, 0, 32), (47, 48, 49, 50, *range(53, 81))))
        rollbacks = example_pool(written=True)
        destroy_all(rollbacks)
        self.assertEqual(room(rollbacks), (0, 8, 32))

    def test_open_deeds_do_not_count(self):
        pool = example_pool(written=True)
        before = answers(pool)
        write(pool, "a", "/f", 20, [5])
        make_file(pool, "a", "/g")
        self.assertEqual(answers(pool), before)
        commit(pool)
        self.assertNotEqual(answers(pool), before)

    def test_nothing_is_written(self):
        pool = long_pool()
        begun, number = pool.drives.begun(), pool.root.number
        pool.drives.arm(1, 0)
        answers(pool)
        self.assertEqual((pool.drives.begun(), pool.root.number), (begun, number))


def destroy_all(pool):
    drop(pool, "a@s")
    destroy(pool, "a")


def answers(pool):
    texts = ["a", "a@s"]
    return (room(pool), free_cells(pool), [question(pool, text) for question in OF_A_ROOT for text in texts],
            used(pool, "a"), freed_by(pool, texts), freed_pairs(pool.root, [1]))


class FreedTest(Case):
    def test_lists_of_roots(self):
        pool = long_pool()
        raw = raws_of(pool)[0]
        texts = [raw.roots[ident]["text"] for ident in sorted(raw.roots)]
        for roots in ((), [], ["a@s"], ("a@s", "a@s"), ["a", "a"], ["b@x", "c"], ["c@y", "b", "b@x", "c"], texts,
                      [*texts, *texts], texts[::-1], texts[1:], texts[:-1]):
            expected = len(raw.freed({raw.ident(text) for text in roots}))
            self.assertEqual(freed_by(pool, roots), expected, roots)
        self.assertEqual((freed_by(pool, []), freed_by(pool, texts)), (0, room(pool)[0]))

    def test_the_pairs(self):
        pool = long_pool()
        raw = raws_of(pool)[0]
        idents = sorted(raw.roots)
        for chosen in ([], idents[:1], idents[1:3], idents[::2], idents, idents[::-1], [idents[0]] * 2):
            told = freed_pairs(pool.root, chosen)
            self.assertIsInstance(told, list)
            self.assertEqual(told, raw.freed(set(chosen)))
            told.clear()
            self.assertEqual(freed_pairs(pool.root, chosen), raw.freed(set(chosen)))
        self.assertEqual(freed_pairs(pool.root, idents), sorted(pool.root.used.items()))

    def test_the_list_that_is_handed_in_stays(self):
        pool = long_pool()
        roots = ["a@s", "a", "a@s"]
        freed_by(pool, roots)
        self.assertEqual(roots, ["a@s", "a", "a@s"])
        idents = [2, 1, 2]
        freed_pairs(pool.root, idents)
        self.assertEqual(idents, [2, 1, 2])


class RefusalTest(Case):
    def test_of_a_root(self):
        pool = example_pool(written=True)
        for question in OF_A_ROOT:
            for text in NO_ROOTS:
                self.refused(pool, ("BadName", text), question, text)
            self.refused(pool, ("NoVolume", "b"), question, "b@s")
            self.refused(pool, ("NoVolume", "b"), question, "b")
            self.refused(pool, ("NoRoot", "a@t"), question, "a@t")
            self.off(question, "@")
            self.off(question, "a")

    def test_of_a_list_of_roots(self):
        pool = example_pool(written=True)
        for roots, expected in ((("b", "a@t", "@"), ("BadName", "@")), (["", "@"], ("BadName", "")),
                                (("a@t", "b"), ("NoRoot", "a@t")), (("a", "b@s", "a@t"), ("NoVolume", "b")),
                                (["a", "a@s", "a@t"], ("NoRoot", "a@t")), (["b", None], ("BadName", None))):
            self.refused(pool, expected, freed_by, roots)
        self.off(freed_by, ["@"])
        self.off(freed_by, [])

    def test_of_a_volume(self):
        pool = example_pool(written=True)
        for name in NO_NAMES:
            self.refused(pool, ("BadName", name), used, name)
        self.refused(pool, ("NoVolume", "b"), used, "b")
        self.off(used, "A")
        self.off(used, "a")
        self.off(room)
        self.off(free_cells)

    def test_kinds_of_results(self):
        pool = example_pool(written=True)
        self.assertEqual((type(room(pool)), type(free_cells(pool)), type(freed_pairs(pool.root, [1]))),
                         (tuple, tuple, list))


if __name__ == "__main__":
    unittest.main()
