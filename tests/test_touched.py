import random
import unittest

from bornroots.commit import commit
from bornroots.desk import cut_to, make_file, unlink, write
from bornroots.drives import Drives
from bornroots.mount import mount
from bornroots.snapshots import rollback, snapshot
from bornroots.touched import differ, is_above, touched, touched_keys
from bornroots.volumes import make_volume

from books import clone_book
from histories import Story
from pools import example_pool
from rawpool import check_answers, raws_of
from rootdeeds import Case
from test_promotes import clone_pool, long_pool
from test_snapshots import NO_ROOTS


def sent_pool():
    """The pool of the example of 11, behind snapshot a u (7)."""
    pool = example_pool(written=True)
    write(pool, "a", "/f", 0, [0])
    cut_to(pool, "a", "/f", 0)
    snapshot(pool, "a", "u")
    return pool


class TouchedTest(Case):
    def test_the_example(self):
        pool = sent_pool()
        self.assertEqual((pool.root.number, touched(pool, "a@s", "a@u"), touched(pool, "a@s", "a")), (7, (8,), (8,)))
        # The record is the old one again, its leaf is new.
        self.assertEqual(differ(pool, "a@s", "a@u"), ((8, (1, 1, 0), (1, 1, 0)),))
        self.assertEqual((touched(pool, "a@u", "a"), differ(pool, "a@u", "a")), ((), ()))

    def test_keys_that_came_and_went(self):
        pool = example_pool(written=True)
        self.assertEqual(touched(pool, "a@s", "a"), (8, 9))
        make_file(pool, "a", "/g")
        snapshot(pool, "a", "t")
        unlink(pool, "a", "/f")
        commit(pool)
        # Of node 1 all records went; the bucket of g is another one than that of f.
        self.assertEqual(touched(pool, "a@s", "a@t"), (1, 8, 9, 16))
        self.assertEqual(touched(pool, "a@t", "a"), (7, 8, 9))
        self.assertEqual(touched(pool, "a@s", "a"), (1, 7, 8, 16))
        self.assertEqual(differ(pool, "a@t", "a"), ((7, (6, 1), ()), (8, (1, 1, 1), ()),
                                                    (9, (5, 0, 0, 0, 0, 0, 0, 0), ())))
        self.assertEqual(differ(pool, "a", "a@t")[0], (7, (), (6, 1)))
        check_answers(self, pool)

    def test_a_key_that_came_and_went_between_is_not_touched(self):
        pool = example_pool(snap=True)
        write(pool, "a", "/f", 0, [5])
        snapshot(pool, "a", "t")
        cut_to(pool, "a", "/f", 0)
        commit(pool)
        self.assertEqual((touched(pool, "a@s", "a"), touched(pool, "a@t", "a")), ((8,), (8, 9)))
        check_answers(self, pool)

    def test_the_same_root(self):
        pool = clone_pool("x")
        for text in ("a", "a@s", "b", "b@x"):
            self.assertEqual((touched(pool, text, text), differ(pool, text, text)), ((), ()))

    def test_below_and_beside(self):
        pool = long_pool()
        for one, other in (("a", "a@s"), ("a@t", "a@s"), ("a@u", "b"), ("b", "a@s"), ("b@x", "a"), ("a", "b"),
                           ("c", "b@x"), ("c@y", "b"), ("b", "c")):
            self.refused(pool, ("NoBase", one), touched, one, other)
        for one, other in (("a@s", "c"), ("a@t", "c@y"), ("b@x", "c"), ("a@s", "b@x")):
            self.assertIsInstance(touched(pool, one, other), tuple)
        check_answers(self, pool)

    def test_open_deeds_do_not_count(self):
        pool = example_pool(written=True)
        write(pool, "a", "/f", 20, [1])
        self.assertEqual((touched(pool, "a@s", "a"), len(differ(pool, "a@s", "a"))), ((8, 9), 2))

    def test_behind_a_rollback(self):
        pool = example_pool(written=True)
        rollback(pool, "a")
        self.assertEqual((touched(pool, "a@s", "a"), differ(pool, "a@s", "a")), ((), ()))

    def test_refusals_in_their_order(self):
        pool = clone_pool()
        for question in (touched, differ):
            for text in NO_ROOTS:
                self.refused(pool, ("BadName", text), question, text, "@")
                self.refused(pool, ("BadName", text), question, "c", text)
                self.refused(pool, ("BadName", text), question, "a@t", text)
            self.refused(pool, ("NoVolume", "c"), question, "c@s", "d")
            self.refused(pool, ("NoRoot", "a@t"), question, "a@t", "d")
            self.refused(pool, ("NoVolume", "d"), question, "b", "d")
            self.refused(pool, ("NoRoot", "b@s"), question, "b", "b@s")
            self.off(question, "@", "@")
            self.off(question, "a", "a@s")
        self.refused(pool, ("NoBase", "b"), touched, "b", "a@s")
        self.assertEqual(len(differ(pool, "b", "a@s")), 2)


class DifferTest(Case):
    def test_roots_of_two_volumes(self):
        pool = clone_pool()
        self.assertEqual(differ(pool, "a", "b"),
                         ((8, (1, 1, 1), (1, 1, 2)), (9, (5, 0, 0, 0, 0, 0, 0, 0), (0, 6, 0, 0, 0, 0, 0, 0))))
        make_volume(pool, "c")
        # The record of the top folder is alike, its leaf is another one.
        self.assertEqual(differ(pool, "c", "a@s"), ((0, (2, 0), (2, 0)), (7, (), (6, 1)), (8, (), (1, 1, 0))))

    def test_long_rows(self):
        for seed in range(4):
            story = Story(self, random.Random(200 + seed), Drives(1, 300))
            for at in range(100):
                story.one()
                if at % 8 == 0:
                    check_answers(self, story.pool)
            check_answers(self, mount(story.drives))


class RootsTest(unittest.TestCase):
    def test_is_above(self):
        book = clone_book()
        above = {(high, low) for high in book.roots for low in book.roots
                 if is_above(book, book.roots[high], book.roots[low])}
        self.assertEqual(above, {(6, 2), (2, 1), (6, 1), (6, 7), (6, 8), (8, 5), (6, 5)})
        for high in book.roots.values():
            self.assertIs(is_above(book, high, high), False)
        self.assertIs(is_above(book, book.roots[6], book.roots[5]), True)

    def test_touched_keys(self):
        pool = sent_pool()
        roots = pool.root.book.roots
        told = touched_keys(pool.root, roots[2], roots[3])
        self.assertEqual((told, touched_keys(pool.root, roots[1], roots[1])), ([8], []))
        told.append(9)
        self.assertEqual(touched_keys(pool.root, roots[2], roots[3]), [8])
        raw = raws_of(long_pool())[0]
        self.assertTrue(any(raw.is_above(one, other) for one in raw.roots for other in raw.roots))

    def test_a_head_and_itself(self):
        # The time of a head is 0, and all its blocks are younger; yet nothing was touched.
        pool = example_pool(written=True)
        self.assertEqual(touched_keys(pool.root, pool.root.book.roots[1], pool.root.book.roots[1]), [])


if __name__ == "__main__":
    unittest.main()
