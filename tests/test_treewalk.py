import unittest

from bornroots.drives import Drives
from bornroots.faults import rot
from bornroots.rows import half_of, made_row
from bornroots.treeplan import Tree, grown
from bornroots.treewalk import book_walked, walked

from books import book_with
from refusals import refusal

RECORDS = {0: (2, 0), 7: (6, 1), 8: (1, 1, 0), 64: (5,), 511: (1000002,) * 16}


def drives_with(many=1, room=40):
    """Drives that show the tree of RECORDS, written by the transactions 2 and 3, and this tree."""
    drives = Drives(many, room)
    old, rows = grown(Tree({}, {}), {0: (2, 0)}, [41, 42, 43, 44], 2)
    tree, more = grown(old, RECORDS, list(range(45, 80)), 3)
    for place, row in [*rows, *more]:
        for drive in range(many):
            drives.lay(drive, place, row)
    return drives, tree


def without(tree, lo, hi):
    """What is left of a tree if the block of this stretch is lost."""
    width = hi - lo + 1
    gone = [(level, number) for level, number in tree.places
            if (1, 8, 64, 512)[3 - level] <= width and lo <= number * (1, 8, 64, 512)[3 - level] <= hi]
    places = {block: tree.places[block] for block in tree.places if block not in gone}
    return places, {key: tree.records[key] for key in tree.records if not lo <= key <= hi}


BLOCKS = ((3, 7, 7, 7), (3, 511, 511, 511), (2, 0, 0, 7), (2, 1, 8, 15), (1, 0, 0, 63), (1, 7, 448, 511), (0, 0, 0, 511))


class WalkTest(unittest.TestCase):
    def check(self, told, places, records, lost):
        tree, found = told
        self.assertIsInstance(told, tuple)
        self.assertIsInstance(tree, Tree)
        self.assertEqual((tree.places, tree.records, found), (places, records, lost))

    def test_there_and_back(self):
        for many in (1, 2, 3):
            drives, tree = drives_with(many)
            self.check(walked(drives, tree.top()), tree.places, RECORDS, [])

    def test_an_elder_top(self):
        drives, _ = drives_with()
        places = {(3, 0): (41, 2), (2, 0): (42, 2), (1, 0): (43, 2), (0, 0): (44, 2)}
        self.check(walked(drives, (44, 2)), places, {0: (2, 0)}, [])

    def test_no_pair(self):
        drives, _ = drives_with()
        self.check(walked(drives, (0, 0)), {}, {}, [])
        self.check(walked(drives, (0, 0), only=()), {}, {}, [])
        self.check(walked(Drives(1, 8), (0, 0)), {}, {}, [])

    def test_each_way_to_be_lost_at_each_level(self):
        for level, number, lo, hi in BLOCKS:
            drives, tree = drives_with()
            address, birth = tree.places[level, number]
            row = drives.cell(0, address)
            kind, payload = row[0], row[4:-1]
            places, records = without(tree, lo, hi)
            self.assertLess(len(places), len(tree.places))
            for bad in ((), half_of(row), (*row[:-1], row[-1] + 1), made_row(9 - kind, address, birth, payload),
                        made_row(kind, address + 1, birth, payload), made_row(kind, address, birth - 1, payload),
                        made_row(kind, address, birth + 1, payload)):
                drives.lay(0, address, bad)
                self.check(walked(drives, tree.top()), places, records, [(address, lo, hi)])

    def test_several_lost_ones_by_lo(self):
        drives, tree = drives_with()
        lost = []
        for level, number, lo, hi in ((3, 511, 511, 511), (3, 0, 0, 0), (2, 1, 8, 15), (1, 1, 64, 127)):
            address = tree.places[level, number][0]
            drives.lay(0, address, ())
            lost.append((address, lo, hi))
        told, found = walked(drives, tree.top())
        self.assertEqual(found, sorted(lost, key=lambda it: it[1]))
        self.assertEqual(told.records, {7: (6, 1)})
        self.assertEqual(sorted(told.places), [(0, 0), (1, 0), (1, 7), (2, 0), (2, 63), (3, 7)])

    def test_a_branch_is_in_places_though_nothing_beneath_is_reached(self):
        drives, tree = drives_with()
        drives.lay(0, tree.places[3, 8][0], ())
        told, _ = walked(drives, tree.top())
        self.assertEqual(told.places[2, 1], tree.places[2, 1])

    def test_nothing_beneath_a_lost_block_is_looked_at(self):
        drives, tree = drives_with()
        for block in ((2, 0), (3, 0), (3, 7)):
            drives.lay(0, tree.places[block][0], ())
        _, lost = walked(drives, tree.top())
        self.assertEqual(lost, [(tree.places[2, 0][0], 0, 7)])

    def test_rows_good_on_some_drive_alone(self):
        drives, tree = drives_with(3)
        for at, pair in enumerate(tree.pairs()):
            for drive in range(3):
                if drive != at % 3:
                    drives.lay(drive, pair[0], half_of(drives.cell(drive, pair[0])))
        self.check(walked(drives, tree.top()), tree.places, RECORDS, [])
        lost = walked(drives, tree.top(), only=(0, 1))[1]
        self.assertTrue(lost)

    def test_the_least_drive_that_fits_is_read(self):
        drives, tree = drives_with(3)
        address, birth = tree.places[3, 8]
        drives.lay(0, address, made_row(4, address, birth, (7,)))
        drives.lay(2, address, made_row(5, address, birth, (9,)))
        self.assertEqual(walked(drives, tree.top())[0].records[8], (1, 1, 0))
        self.assertEqual(walked(drives, tree.top(), only=(2, 0))[0].records[8], (9,))

    def test_named_drives_alone_and_drives_that_are_off(self):
        drives, tree = drives_with(3)
        drives.blank(0)
        rot(drives, 1, tree.places[3, 64][0], 4, 1)
        drives.turn(2, False)
        self.check(walked(drives, tree.top()), tree.places, RECORDS, [])
        self.check(walked(drives, tree.top(), only=(2,)), tree.places, RECORDS, [])
        self.check(walked(drives, tree.top(), only=(2, 1)), tree.places, RECORDS, [])
        places, records = without(tree, 64, 64)
        self.check(walked(drives, tree.top(), only=(1, 0)), places, records, [(tree.places[3, 64][0], 64, 64)])
        self.check(walked(drives, tree.top(), only=(0,)), {}, {}, [(tree.top()[0], 0, 511)])
        self.check(walked(drives, tree.top(), only=()), {}, {}, [(tree.top()[0], 0, 511)])

    def test_a_top_that_is_nowhere(self):
        drives, tree = drives_with()
        self.check(walked(drives, (tree.top()[0], 4)), {}, {}, [(tree.top()[0], 0, 511)])
        self.check(walked(drives, (80, 3)), {}, {}, [(80, 0, 511)])
        self.check(walked(drives, (81, 3)), {}, {}, [(81, 0, 511)])
        self.check(walked(drives, (1000002, 3)), {}, {}, [(1000002, 0, 511)])

    def test_a_leaf_is_no_top(self):
        drives, tree = drives_with()
        self.check(walked(drives, tree.places[3, 0]), {}, {}, [(41, 0, 511)])

    def test_a_tree_that_was_read_may_grow(self):
        drives, tree = drives_with()
        told = walked(drives, tree.top())[0]
        more = {**RECORDS, 9: (1,)}
        self.assertEqual(grown(told, more, [70, 71, 72, 73], 4)[1], grown(tree, more, [70, 71, 72, 73], 4)[1])

    def test_walks_change_nothing(self):
        drives, tree = drives_with()
        drives.start()
        drives.put(48, (1, 2))
        before = (drives.pending(), [drives.cell(0, place) for place in range(81)])
        tree, lost = walked(drives, tree.top())
        tree.records.clear()
        lost.clear()
        self.assertEqual((drives.pending(), [drives.cell(0, place) for place in range(81)]), before)

    def test_only_is_told_by_name(self):
        drives, tree = drives_with()
        self.assertEqual(walked(drives=drives, top=tree.top(), only=None)[1], [])
        with self.assertRaises(TypeError):
            walked(drives, tree.top(), (0,))
        self.assertIsNone(refusal(walked, drives, tree.top(), only=(0,)))


class BookTest(unittest.TestCase):
    def test_all_trees_and_what_is_lost_of_them(self):
        drives, tree = drives_with(2)
        book = book_with(4, [("a", 0, 1)], [(1, 1, None, 2, 0, (0, 0), tree.top(), ()),
                                            (2, 1, "s", 0, 3, (7, 3), (44, 2), ()),
                                            (3, 1, "t", 2, 4, (7, 4), (0, 0), ())])
        trees, lost = book_walked(drives, book)
        self.assertEqual(([sorted(trees), lost], trees[1].records, trees[2].records, trees[3].records),
                         ([[1, 2, 3], []], RECORDS, {0: (2, 0)}, {}))
        for place in (41, 43):
            rot(drives, 0, place, 0, 1)
        self.assertEqual(book_walked(drives, book)[1], [])
        self.assertEqual(book_walked(drives, book, only=(1,))[1], [])
        # The leaf in 41 stands in both trees, the mid in 43 in the old one alone, and hides the leaf there.
        self.assertEqual(sorted(book_walked(drives, book, only=(0,))[1]), [41, 43])


if __name__ == "__main__":
    unittest.main()
