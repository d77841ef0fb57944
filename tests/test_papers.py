import random
import unittest

from bornroots.commit import commit
from bornroots.desk import write
from bornroots.drives import Drives
from bornroots.drops import drop
from bornroots.mount import made_pool
from bornroots.papers import letgo_paper, letgo_right, untouched_right
from bornroots.snapshots import clone, snapshot
from bornroots.volumes import destroy

from pools import example_pool
from rawpool import check_papers, like_pairs, raws_of
from rootdeeds import Case
from test_drops import chain_pool
from test_promotes import long_pool
from test_snapshots import NO_ROOTS
from test_touched import sent_pool

PAIRS = ((47, 3), (48, 3), (49, 3), (50, 3))


class LetgoTest(Case):
    def test_the_example(self):
        pool = example_pool(written=True)
        self.assertEqual(letgo_paper(pool, "a@s"), (2, PAIRS))
        self.assertIs(letgo_right(pool, (2, PAIRS)), True)

    def test_wrong_papers(self):
        pool = example_pool(written=True)
        for pairs in ((), PAIRS[:3], PAIRS[1:], (*PAIRS, PAIRS[3]), (PAIRS[0], *PAIRS), PAIRS[::-1],
                      (PAIRS[1], PAIRS[0], *PAIRS[2:]), (*PAIRS, (51, 3)), ((46, 3), *PAIRS), ((0, 0), *PAIRS),
                      ((47, 4), *PAIRS[1:]), ((47, 2), *PAIRS[1:]), (*PAIRS[:3], (51, 3)), (*PAIRS, (45, 3)),
                      ((47,), *PAIRS[1:]), ((10 ** 9, -1),)):
            self.assertIs(letgo_right(pool, (2, pairs)), False, pairs)
        # A head, and idents that no root has.
        for ident in (1, 0, 3, -1, 10 ** 9):
            for pairs in (PAIRS, ()):
                self.assertIs(letgo_right(pool, (ident, pairs)), False)

    def test_of_each_snapshot_with_one_child(self):
        for pool in (chain_pool(), long_pool(), sent_pool()):
            raw = raws_of(pool)[0]
            for ident in raw.droppable():
                pairs = tuple(raw.freed([ident]))
                text = raw.roots[ident]["text"]
                self.assertEqual(letgo_paper(pool, text), (ident, pairs))
                self.assertIs(letgo_right(pool, (ident, pairs)), True)
                for other in like_pairs(pairs, sorted(raw.pairs(raw.roots)), random.Random(1)):
                    self.assertIs(letgo_right(pool, (ident, other)), other == pairs)
                for other in raw.droppable():
                    if other != ident:
                        self.assertIs(letgo_right(pool, (other, pairs)), pairs == tuple(raw.freed([other])))

    def test_snapshots_without_a_change_let_nothing_go(self):
        pool = example_pool(snap=True)
        self.assertEqual(letgo_paper(pool, "a@s"), (2, ()))
        self.assertIs(letgo_right(pool, (2, ())), True)
        self.assertIs(letgo_right(pool, (2, PAIRS)), False)

    def test_two_children(self):
        pool = example_pool(written=True)
        clone(pool, "a@s", "b")
        for pairs in (PAIRS, (), tuple(raws_of(pool)[0].freed([2]))):
            self.assertIs(letgo_right(pool, (2, pairs)), False)
        self.refused(pool, ("Cloned", "a@s"), letgo_paper, "a@s")
        destroy(pool, "b")
        self.assertIs(letgo_right(pool, (2, PAIRS)), True)

    def test_it_tells_what_the_drop_lets_go(self):
        pool = chain_pool()
        for text in ("a@t", "a@s", "a@v", "a@u"):
            ident, pairs = letgo_paper(pool, text)
            used = dict(pool.root.used)
            self.assertEqual(drop(pool, text), len(pairs))
            self.assertEqual({address: birth for address, birth in used.items() if address not in pool.root.used},
                             dict(pairs))
            self.assertIs(letgo_right(pool, (ident, pairs)), False)

    def test_open_deeds_do_not_count(self):
        pool = example_pool(snap=True)
        write(pool, "a", "/f", 0, [5])
        self.assertEqual((letgo_paper(pool, "a@s"), letgo_right(pool, (2, ())), len(pool.opened)), ((2, ()), True, 1))
        commit(pool)
        self.assertEqual((letgo_paper(pool, "a@s"), letgo_right(pool, (2, ()))), ((2, PAIRS), False))

    def test_refusals_in_their_order(self):
        pool = example_pool(snap=True)
        clone(pool, "a@s", "b")
        for text in NO_ROOTS:
            self.refused(pool, ("BadName", text), letgo_paper, text)
        for text, expected in (("c", ("NoVolume", "c")), ("c@s", ("NoVolume", "c")), ("a@t", ("NoRoot", "a@t")),
                               ("a", ("NoSnap", "a")), ("b", ("NoSnap", "b")), ("a@s", ("Cloned", "a@s"))):
            self.refused(pool, expected, letgo_paper, text)
        self.off(letgo_paper, "@")
        self.off(letgo_paper, "a@s")
        self.off(letgo_right, (2, ()))
        self.off(letgo_right, (0, ()))


class UntouchedTest(Case):
    def test_the_example(self):
        pool = example_pool(written=True)
        self.assertEqual([untouched_right(pool, paper) for paper in ((2, 1, 7), (2, 1, 8), (1, 2, 7))],
                         [True, False, False])

    def test_each_key(self):
        pool = example_pool(written=True)
        for key in range(-2, 515):
            self.assertIs(untouched_right(pool, (2, 1, key)), 0 <= key <= 511 and key not in (8, 9))
            self.assertIs(untouched_right(pool, (2, 2, key)), 0 <= key <= 511)
            self.assertIs(untouched_right(pool, (1, 1, key)), 0 <= key <= 511)
        for key in (-10 ** 20, 10 ** 20):
            self.assertIs(untouched_right(pool, (2, 1, key)), False)

    def test_a_leaf_that_is_new_though_its_record_is_old(self):
        self.assertIs(untouched_right(sent_pool(), (2, 3, 8)), False)

    def test_idents(self):
        pool = example_pool(written=True)
        for one, other in ((0, 1), (2, 0), (0, 0), (3, 3), (3, 1), (2, 3), (-1, 1), (2, 10 ** 9), (1, 2)):
            self.assertIs(untouched_right(pool, (one, other, 0)), False)

    def test_any_two_roots(self):
        for pool in (long_pool(), chain_pool()):
            check_papers(self, pool, random.Random(3))
        empty = made_pool(Drives(1, 8))
        self.assertIs(untouched_right(empty, (0, 0, 0)), False)
        check_papers(self, empty, random.Random(3))

    def test_open_deeds_do_not_count(self):
        pool = example_pool(snap=True)
        write(pool, "a", "/f", 0, [5])
        self.assertIs(untouched_right(pool, (2, 1, 8)), True)
        commit(pool)
        self.assertIs(untouched_right(pool, (2, 1, 8)), False)

    def test_off(self):
        self.off(untouched_right, (2, 1, 7))
        self.off(untouched_right, (0, 0, 600))

    def test_a_snapshot_below_a_snapshot(self):
        pool = sent_pool()
        snapshot(pool, "a", "v")
        self.assertEqual([untouched_right(pool, paper) for paper in ((3, 4, 8), (2, 4, 8), (4, 3, 8), (4, 1, 511))],
                         [True, False, False, True])


if __name__ == "__main__":
    unittest.main()
