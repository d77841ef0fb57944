import random
import unittest

from bornroots.rows import made_row
from bornroots.treeplan import Tree, changed, grown, size_of, unlike_keys

from refusals import refusal

WIDTHS = (512, 64, 8, 1)
ALL_BLOCKS = [(level, number) for level in range(4) for number in range(512 // WIDTHS[level])]
EMPTY = Tree({}, {})


def has_key(block, keys):
    level, number = block
    return any(key // WIDTHS[level] == number for key in keys)


def hi_of(block):
    return (block[1] + 1) * WIDTHS[block[0]] - 1


def unlike(old, new):
    return [key for key in range(512) if (key in old) != (key in new) or (key in old and old[key] != new[key])]


def new_blocks(old, new):
    """By the words of the document, block by block."""
    keys = unlike(old, new)
    told = [block for block in ALL_BLOCKS if has_key(block, new) and has_key(block, keys)]
    return sorted(told, key=lambda block: (hi_of(block), -block[0]))


def cells_of(many):
    return list(range(41, 41 + many))


def records_by(chance, many):
    keys = [chance.choice([chance.randrange(512), chance.randrange(24), 511]) for _ in range(many)]
    return {key: tuple(chance.choices(range(3), k=chance.randint(1, 2))) for key in keys}


class TreeTest(unittest.TestCase):
    def test_fields_are_copies(self):
        places, records = {(0, 0): (44, 2)}, {0: (2, 0)}
        tree = Tree(places, records)
        self.assertEqual((tree.places, tree.records), ({(0, 0): (44, 2)}, {0: (2, 0)}))
        places.clear()
        records.clear()
        self.assertEqual((tree.places, tree.records), ({(0, 0): (44, 2)}, {0: (2, 0)}))
        self.assertEqual(Tree(records={}, places={}).top(), (0, 0))

    def test_top_and_pairs(self):
        self.assertEqual((EMPTY.top(), EMPTY.pairs()), ((0, 0), []))
        tree = Tree({(3, 0): (50, 2), (2, 0): (41, 7), (1, 0): (42, 7), (0, 0): (43, 6)}, {0: (1,)})
        self.assertEqual(tree.top(), (43, 6))
        self.assertEqual(tree.pairs(), [(41, 7), (42, 7), (43, 6), (50, 2)])
        tree.pairs().clear()
        self.assertEqual(len(tree.pairs()), 4)

    def test_equal_only_to_themselves(self):
        self.assertNotEqual(Tree({}, {}), Tree({}, {}))


class UnlikeTest(unittest.TestCase):
    def test_unlike_keys(self):
        old = {0: (1,), 9: (1, 0), 300: (7,), 511: (5,)}
        new = {511: (6,), 300: (7,), 9: (1,), 1: (1,)}
        self.assertEqual(unlike_keys(old, new), [0, 1, 9, 511])
        self.assertEqual(unlike_keys(new, old), [0, 1, 9, 511])
        self.assertEqual(unlike_keys(old, dict(old)), [])
        self.assertEqual(unlike_keys({}, {}), [])
        self.assertEqual(unlike_keys({}, {7: (0,)}), [7])
        self.assertEqual(unlike_keys({64: (1,)}, {8: (1,), 1: (1,)}), [1, 8, 64])
        self.assertEqual(unlike_keys({7: (0,)}, {}), [7])
        self.assertEqual(old, {0: (1,), 9: (1, 0), 300: (7,), 511: (5,)})


class SizeTest(unittest.TestCase):
    def test_by_the_formula(self):
        self.assertEqual(size_of({}), 0)
        self.assertEqual(size_of({0: (2, 0)}), 4)
        self.assertEqual(size_of({511: (2, 0)}), 4)
        self.assertEqual(size_of({0: (1,), 7: (1,)}), 5)
        self.assertEqual(size_of({0: (1,), 8: (1,)}), 6)
        self.assertEqual(size_of({0: (1,), 64: (1,)}), 7)
        self.assertEqual(size_of({key: (1,) for key in range(512)}), 512 + 64 + 8 + 1)
        chance = random.Random(1)
        for many in range(40):
            records = records_by(chance, many)
            tree, rows = grown(EMPTY, records, cells_of(400), 2)
            self.assertEqual(size_of(records), len(tree.pairs()))
            self.assertEqual(size_of(records), len(rows))


class ChangedTest(unittest.TestCase):
    def test_the_example_of_the_interface(self):
        old, rows = grown(EMPTY, {0: (2, 0)}, [41, 42, 43, 44, 45], 2)
        told = (old.top(), old.pairs(), rows[0])
        self.assertEqual(told, ((44, 2), [(41, 2), (42, 2), (43, 2), (44, 2)], (41, (5, 41, 2, 2, 2, 0, 111))))
        new = changed(old, {0: (2, 0), 7: (6, 1), 8: (1, 1, 0)})
        self.assertEqual(new, ([(3, 7), (2, 0), (3, 8), (2, 1), (1, 0), (0, 0)], [(42, 2), (43, 2), (44, 2)]))

    def test_nothing_changed(self):
        tree, _ = grown(EMPTY, {0: (2, 0), 9: (1,)}, cells_of(9), 2)
        self.assertEqual(changed(tree, {9: (1,), 0: (2, 0)}), ([], []))
        self.assertEqual(changed(EMPTY, {}), ([], []))

    def test_all_goes(self):
        tree, _ = grown(EMPTY, {0: (2, 0)}, cells_of(4), 2)
        self.assertEqual(changed(tree, {}), ([], [(41, 2), (42, 2), (43, 2), (44, 2)]))

    def test_the_last_key_of_a_stretch_goes(self):
        tree, _ = grown(EMPTY, {0: (1,), 8: (1,), 64: (1,)}, cells_of(9), 2)
        new, replaced = changed(tree, {0: (1,), 64: (1,)})
        self.assertEqual(new, [(1, 0), (0, 0)])
        gone = [tree.places[block] for block in ((3, 8), (2, 1), (1, 0), (0, 0))]
        self.assertEqual(replaced, sorted(gone))
        new, replaced = changed(tree, {0: (1,), 8: (1,)})
        self.assertEqual(new, [(0, 0)])
        self.assertEqual(replaced, sorted(tree.places[block] for block in ((3, 64), (2, 8), (1, 1), (0, 0))))

    def test_order_of_far_and_near_keys(self):
        new, _ = changed(EMPTY, {511: (1,), 0: (1,), 63: (1,), 7: (1,)})
        self.assertEqual(new, [(3, 0), (3, 7), (2, 0), (3, 63), (2, 7), (1, 0), (3, 511), (2, 63), (1, 7), (0, 0)])

    def test_a_lower_block_may_be_written_behind_a_higher_one(self):
        new, _ = changed(EMPTY, {7: (1,), 8: (1,)})
        self.assertEqual(new, [(3, 7), (2, 0), (3, 8), (2, 1), (1, 0), (0, 0)])

    def test_by_the_words_both_ways_round(self):
        chance = random.Random(2)
        for _ in range(60):
            old, new = records_by(chance, chance.randint(0, 12)), records_by(chance, chance.randint(0, 12))
            for key in chance.sample(sorted(old), len(old) // 2):
                new[key] = old[key]
            for before, behind in ((old, new), (new, old)):
                tree, _ = grown(EMPTY, before, cells_of(60), 2)
                told, replaced = changed(tree, behind)
                self.assertEqual(told, new_blocks(before, behind))
                touched = [block for block in tree.places if has_key(block, unlike(before, behind))]
                self.assertEqual(replaced, sorted(tree.places[block] for block in touched))


class GrownTest(unittest.TestCase):
    def test_the_example_of_the_point(self):
        tree, rows = grown(EMPTY, {0: (2, 0)}, [41, 42, 43, 44], 2)
        noughts = (0,) * 14
        self.assertEqual(rows, [(41, (5, 41, 2, 2, 2, 0, 111)), (42, (4, 42, 2, 16, 41, 2, *noughts, 375)),
                                (43, (4, 43, 2, 16, 42, 2, *noughts, 382)), (44, (4, 44, 2, 16, 43, 2, *noughts, 389))])
        self.assertEqual(tree.places, {(3, 0): (41, 2), (2, 0): (42, 2), (1, 0): (43, 2), (0, 0): (44, 2)})
        self.assertEqual(tree.records, {0: (2, 0)})

    def test_a_step_behind_it(self):
        old, _ = grown(EMPTY, {0: (2, 0)}, [41, 42, 43, 44], 2)
        new, rows = grown(old, {0: (2, 0), 7: (6, 1), 8: (1, 1, 0)}, [45, 46, 47, 48, 49, 50], 3)
        self.assertEqual([place for place, _ in rows], [45, 46, 47, 48, 49, 50])
        self.assertEqual(rows[0], (45, made_row(5, 45, 3, (6, 1))))
        self.assertEqual(rows[1], (46, made_row(4, 46, 3, (41, 2, *(0,) * 12, 45, 3))))
        self.assertEqual(rows[2], (47, made_row(5, 47, 3, (1, 1, 0))))
        self.assertEqual(rows[3], (48, made_row(4, 48, 3, (47, 3, *(0,) * 14))))
        self.assertEqual(rows[4], (49, made_row(4, 49, 3, (46, 3, 48, 3, *(0,) * 12))))
        self.assertEqual(rows[5], (50, made_row(4, 50, 3, (49, 3, *(0,) * 14))))
        self.assertEqual(new.top(), (50, 3))
        self.assertEqual(new.pairs(), [(41, 2), (45, 3), (46, 3), (47, 3), (48, 3), (49, 3), (50, 3)])
        self.assertEqual(old.pairs(), [(41, 2), (42, 2), (43, 2), (44, 2)])
        self.assertEqual(old.records, {0: (2, 0)})

    def test_no_change_needs_no_cell(self):
        old, _ = grown(EMPTY, {0: (2, 0), 99: (5,)}, cells_of(9), 2)
        new, rows = grown(old, dict(old.records), [], 3)
        self.assertEqual((new.places, new.records, rows), (old.places, old.records, []))
        empty, rows = grown(EMPTY, {}, [], 3)
        self.assertEqual((empty.places, empty.records, empty.top(), rows), ({}, {}, (0, 0), []))

    def test_all_goes(self):
        old, _ = grown(EMPTY, {0: (2, 0)}, cells_of(4), 2)
        new, rows = grown(old, {}, [], 3)
        self.assertEqual((new.places, new.records, new.top(), rows), ({}, {}, (0, 0), []))

    def test_a_branch_of_which_only_a_child_went(self):
        old, _ = grown(EMPTY, {0: (1,), 3: (1,)}, cells_of(5), 2)
        new, rows = grown(old, {3: (1,)}, [60, 61, 62], 7)
        self.assertEqual(rows[0], (60, made_row(4, 60, 7, (0, 0, 0, 0, 0, 0, 42, 2, *(0,) * 8))))
        self.assertEqual(new.places, {(3, 3): (42, 2), (2, 0): (60, 7), (1, 0): (61, 7), (0, 0): (62, 7)})

    def test_cells_with_gaps_and_more_than_needed(self):
        cells = [48, 41, 60, 44, 45, 99]
        tree, rows = grown(EMPTY, {0: (2, 0)}, cells, 2)
        self.assertEqual([place for place, _ in rows], [48, 41, 60, 44])
        self.assertEqual(tree.places, {(3, 0): (48, 2), (2, 0): (41, 2), (1, 0): (60, 2), (0, 0): (44, 2)})
        self.assertEqual(cells, [48, 41, 60, 44, 45, 99])

    def test_no_room(self):
        self.assertEqual(refusal(grown, EMPTY, {0: (2, 0)}, [41, 42, 43], 2), ("NoRoom", 4))
        self.assertEqual(refusal(grown, EMPTY, {0: (2, 0)}, [], 2), ("NoRoom", 4))
        old, _ = grown(EMPTY, {0: (2, 0)}, cells_of(4), 2)
        places, records, cells = dict(old.places), {0: (2, 0), 7: (6, 1), 8: (1, 1, 0)}, [45, 46, 47, 48, 49]
        self.assertEqual(refusal(grown, old, records, cells, 3), ("NoRoom", 6))
        self.assertEqual((old.places, old.records), (places, {0: (2, 0)}))
        self.assertEqual((len(records), cells), (3, [45, 46, 47, 48, 49]))

    def test_what_was_handed_in_may_change_later(self):
        records = {0: (2, 0)}
        cells = cells_of(4)
        tree, rows = grown(EMPTY, records, cells, 2)
        records[0] = (9, 9)
        records[1] = (1,)
        cells.clear()
        rows.clear()
        self.assertEqual((tree.records, tree.pairs()), ({0: (2, 0)}, [(41, 2), (42, 2), (43, 2), (44, 2)]))
        other, _ = grown(tree, {0: (2, 0)}, [], 3)
        self.assertIsNot(other.places, tree.places)
        self.assertIsNot(other.records, tree.records)

    def test_births_over_several_steps(self):
        chance = random.Random(3)
        for _ in range(12):
            tree, records, last = EMPTY, {}, {}
            elders = []
            for number in range(2, 12):
                old, records = records, {**records, **records_by(chance, chance.randint(0, 3))}
                for key in chance.sample(sorted(records), chance.randint(0, len(records) // 2)):
                    del records[key]
                for key in unlike(old, records):
                    last[key] = number
                free = [cell for cell in cells_of(400) if cell not in dict(tree.pairs())]
                elders.append((tree, dict(tree.places), old))
                tree, rows = grown(tree, records, free, number)
                self.check(tree, rows, records, last, new_blocks(old, records), free, number)
            for elder, places, told in elders:
                self.assertEqual((elder.places, elder.records), (places, told))

    def check(self, tree, rows, records, last, new, free, number):
        self.assertEqual(tree.records, records)
        self.assertEqual(sorted(tree.places), [block for block in ALL_BLOCKS if has_key(block, records)])
        for level, at in tree.places:
            births = [last[key] for key in last if key // WIDTHS[level] == at]
            self.assertEqual(tree.places[level, at][1], max(births))
        self.assertEqual([place for place, _ in rows], free[:len(new)])
        for (level, at), (place, row) in zip(new, rows):
            self.assertEqual(tree.places[level, at], (place, number))
            payload = records[at] if level == 3 else ()
            for child in range(8 * at, 8 * at + 8) if level < 3 else ():
                payload += tree.places.get((level + 1, child), (0, 0))
            self.assertEqual(row, made_row(5 if level == 3 else 4, place, number, payload))


if __name__ == "__main__":
    unittest.main()
