import random
import unittest

from bornroots.commit import commit
from bornroots.desk import make_file, write
from bornroots.drives import Drives
from bornroots.drops import drop
from bornroots.holders import holders, holders_right
from bornroots.mount import made_pool
from bornroots.promotes import promote
from bornroots.receiving import receive
from bornroots.roomtold import free_cells
from bornroots.snapshots import clone, rollback, snapshot

from histories import Story
from pools import example_pool
from rawpool import check_papers, like_holders, raws_of, some_change
from rootdeeds import Case
from test_parcels import FULL
from test_promotes import long_pool
from test_receiving import MORE


class ExampleTest(Case):
    def test_behind_commit_5(self):
        pool = example_pool(written=True)
        self.assertEqual((holders(pool, 45), holders(pool, 44), holders(pool, 53)),
                         ((45, 3, 7, 3, 2, (1, 2)), (44, 5, 8, 2, 1, (1,)), None))
        self.assertEqual([holders(pool, cell) for cell in (41, 46, 47, 50, 51, 52)],
                         [(41, 2, 0, 3, 2, (1, 2)), (46, 3, 0, 2, 2, (1, 2)), (47, 3, 8, 3, 2, (2,)),
                          (50, 3, 0, 0, 2, (2,)), (51, 5, 0, 1, 1, (1,)), (52, 5, 0, 0, 1, (1,))])
        for cell in range(41, 81):
            paper = holders(pool, cell)
            self.assertIs(paper is None or holders_right(pool, paper), True)

    def test_cells_that_are_not_in_use(self):
        pool = example_pool(written=True)
        drop(pool, "a@s")
        # 47 to 50 wait for the elder, the others are free.
        for cell in (47, 50, *free_cells(pool)):
            self.assertIsNone(holders(pool, cell))
        self.assertEqual(holders(pool, 45), (45, 3, 7, 3, 1, (1,)))

    def test_bounds(self):
        pool = example_pool(written=True)
        for cell in (40, 81, 0, -1, 11, 10 ** 9):
            self.refused(pool, ("BadNumber", cell), holders, cell)
        self.off(holders, 40)
        self.off(holders, 41)
        self.off(holders_right, (45, 3, 7, 3, 2, (1, 2)))
        self.off(holders_right, (0, 0, 0, 0, 0, ()))

    def test_open_deeds_do_not_count(self):
        pool = example_pool(snap=True)
        write(pool, "a", "/f", 0, [5])
        self.assertEqual((holders(pool, 47), holders(pool, 51)), ((47, 3, 8, 3, 2, (1, 2)), None))
        self.assertTrue(holders_right(pool, (47, 3, 8, 3, 2, (1, 2))))
        commit(pool)
        self.assertFalse(holders_right(pool, (47, 3, 8, 3, 2, (1, 2))))
        self.assertTrue(holders_right(pool, (47, 3, 8, 3, 2, (2,))))


class RightTest(Case):
    def test_each_part(self):
        pool = example_pool(written=True)
        right = (45, 3, 7, 3, 2, (1, 2))
        self.assertIs(holders_right(pool, right), True)
        for paper in ((44, 3, 7, 3, 2, (1, 2)), (45, 2, 7, 3, 2, (1, 2)), (45, 3, 8, 3, 2, (1, 2)),
                      (45, 3, 7, 2, 2, (1, 2)), (45, 3, 7, 3, 1, (1, 2)), (45, 3, 7, 3, 3, (1, 2)),
                      (45, 3, 7, 3, 2, (1,)), (45, 3, 7, 3, 2, (2,)), (45, 3, 7, 3, 2, ()), (45, 3, 7, 3, 2, (2, 1)),
                      (45, 3, 7, 3, 2, (1, 1, 2)), (45, 3, 7, 3, 2, (1, 2, 2)), (45, 3, 7, 3, 2, (1, 2, 3)),
                      (45, 3, 7, 3, 2, (0, 1, 2)), (45, 3, 7, 3, 1, (1,)), (45, 3, 7, 3, 0, (1, 2)),
                      (45, 3, 7, 3, 0, (0, 1, 2))):
            self.assertIs(holders_right(pool, paper), False, paper)

    def test_any_key_of_the_stretch(self):
        pool = example_pool(written=True)
        for key in range(-1, 513):
            self.assertIs(holders_right(pool, (44, 5, key, 2, 1, (1,))), 8 <= key <= 15)
            self.assertIs(holders_right(pool, (51, 5, key, 1, 1, (1,))), 0 <= key <= 63)
            self.assertIs(holders_right(pool, (52, 5, key, 0, 1, (1,))), 0 <= key <= 511)
            self.assertIs(holders_right(pool, (45, 3, key, 3, 2, (1, 2))), key == 7)

    def test_blocks_that_are_not_there(self):
        pool = example_pool(written=True)
        for level in range(4):
            for key in (16, 100, 511):
                self.assertIs(holders_right(pool, (0, 0, key, level, 1, (1,))), False)
        empty = made_pool(Drives(1, 8))
        self.assertIs(holders_right(empty, (0, 0, 0, 0, 0, ())), False)
        self.assertIs(holders_right(empty, (41, 1, 0, 0, 1, (1,))), False)

    def test_numbers_beyond_all_bounds(self):
        pool = example_pool(written=True)
        right = (45, 3, 7, 3, 2, (1, 2))
        for number in (-10 ** 30, -1, 10 ** 30, 1000003):
            for at in range(5):
                paper = (*right[:at], number, *right[at + 1:])
                self.assertIs(holders_right(pool, paper), False)
            self.assertIs(holders_right(pool, (*right[:5], tuple(sorted((1, 2, number))))), False)
            self.assertIs(holders_right(pool, (*right[:5], (number,))), False)
            self.assertIs(holders_right(pool, (*right[:4], number, (number,))), False)

    def test_clones_clones_of_clones_and_promotions(self):
        chance = random.Random(5)
        pool = long_pool()
        for deed, given in ((None, ()), (promote, ("c",)), (promote, ("c",)), (promote, ("a",)),
                            (make_file, ("b", "/h")), (snapshot, ("b", "z")), (rollback, ("c",)),
                            (clone, ("b@z", "d")), (write, ("d", "/f", 9, [1])), (commit, ())):
            if deed is not None:
                deed(pool, *given)
            self.every(pool, chance)

    def test_received_ones(self):
        pool = example_pool(written=True)
        receive(pool, FULL, "b", "s")
        receive(pool, MORE, "b", "u")
        clone(pool, "b@u", "c")
        write(pool, "c", "/f", 0, [8])
        commit(pool)
        self.every(pool, random.Random(6))

    def every(self, pool, chance):
        raw = raws_of(pool)[0]
        for cell in range(41, 41 + raw.room):
            paper = raw.holders(cell)
            self.assertEqual(holders(pool, cell), paper)
            if paper is not None:
                papers = [paper, *like_holders(paper, sorted(raw.roots))]
                for told in [*papers, *[some_change(chance, paper) for _ in range(20)]]:
                    self.assertIs(holders_right(pool, told), raw.is_held(told), (paper, told))

    def test_sets_of_roots(self):
        pool = long_pool()
        for cell in (45, 46, 50):
            self.sets(pool, cell)
        # The blocks of a received snapshot have the very time of the snapshot, which is the edge of its head.
        pool = example_pool(snap=True)
        receive(pool, FULL, "b", "s")
        clone(pool, "b@s", "c")
        for cell in pool.root.used:
            self.sets(pool, cell)

    def sets(self, pool, cell):
        """Every set of roots, with each of them as the first one: just one paper of them all is right."""
        roots, right = sorted(pool.root.book.roots), []
        paper = raws_of(pool)[0].holders(cell)
        for mask in range(2 ** len(roots)):
            idents = tuple(ident for at, ident in enumerate(roots) if mask >> at & 1)
            for ident in idents:
                if holders_right(pool, (*paper[:4], ident, idents)):
                    right.append((*paper[:4], ident, idents))
        self.assertEqual(right, [paper])

    def test_long_rows(self):
        for seed in range(4):
            chance = random.Random(400 + seed)
            story = Story(self, chance, Drives(1, 250))
            for at in range(100):
                story.one()
                if at % 9 == 0:
                    check_papers(self, story.pool, chance)

    def test_a_paper_stays(self):
        pool = example_pool(written=True)
        paper = holders(pool, 45)
        self.assertEqual({type(paper), type(paper[5])}, {tuple})
        holders_right(pool, paper)
        self.assertEqual(paper, (45, 3, 7, 3, 2, (1, 2)))


if __name__ == "__main__":
    unittest.main()
