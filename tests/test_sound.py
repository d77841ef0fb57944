import random
import unittest

from bornroots.sound import is_sound

from records import ONE_BUCKET, TOP, Table, done, made, some_deed
from refusals import refusal

# Node 1 is the folder /d, 2 the file /d/a with the names /d/a and /f and eleven values, 3 the folder /d/e, 4 the
# file /h, 5 the folder /d/e/k. Buckets: d 5, f 7, h 2, a 2, e 6, k 5.
WHOLE = {**made("/d/", "/d/a", "/d/a=/f", "/d/e/", "/h", "/d/e/k/"), 16: (1, 2, 11), 17: (1, 0, 0, 0, 0, 0, 0, 999),
         18: (0, 0, 5, 0, 0, 0, 0, 0)}


class SoundTest(unittest.TestCase):
    def test_whole_ones(self):
        for records in (TOP, WHOLE, made("/a", "/h"), made(*["/" + name for name in ONE_BUCKET[:8]])):
            self.assertIs(is_sound(records), True)

    def test_what_the_broken_ones_are_made_from(self):
        self.assertEqual(WHOLE, {
            0: (2, 0), 2: (8, 4), 5: (4, 1), 7: (6, 2), 8: (2, 0), 10: (1, 2), 14: (5, 3), 16: (1, 2, 11),
            17: (1, 0, 0, 0, 0, 0, 0, 999), 18: (0, 0, 5, 0, 0, 0, 0, 0), 24: (2, 1), 29: (11, 5), 32: (1, 1, 0),
            40: (2, 3)})

    def broken(self, changes, gone=()):
        records = {key: record for key, record in {**WHOLE, **changes}.items() if key not in gone}
        self.assertIs(is_sound(records), False, (changes, gone))

    def test_the_empty_dict(self):
        self.assertIs(is_sound({}), False)

    def test_each_key_belongs_to_a_node_with_a_head_record(self):
        self.broken({}, [0])
        self.broken({57: (5, 0, 0, 0, 0, 0, 0, 0)})
        self.broken({511: (1,)})
        self.broken({7: ()}, [7, 16])
        self.broken({58: (1, 2)})
        self.assertIs(is_sound({8: (2, 0)}), False)

    def test_head_records(self):
        for record in ((1, 2), (1, 2, 11, 0), (1,), (0, 2, 11), (3, 2, 11), (1, 0, 11), (1, 2, 57), (1, 1, 11),
                       (1, 3, 11), (1000002, 2, 11), (1, 2, 1000002)):
            self.broken({16: record})
        for record in ((2,), (2, 0, 0), (2, 64), (2, 1000002), (3, 0), (0, 0), (1, 0), (1, 1, 0), (1, 0, 0)):
            self.broken({8: record})
        self.broken({16: (1, 2, 10)})
        self.assertIs(is_sound({**WHOLE, 16: (1, 2, 56)}), True)

    def test_a_file_has_links(self):
        self.assertIs(is_sound({**TOP, 8: (1, 0, 0)}), False)
        self.assertIs(is_sound({**TOP, 8: (1, 1, 0)}), False)

    def test_the_top_folder(self):
        for record in ((2, 1), (1, 1, 0), (2, 3), (2, 0, 0)):
            self.broken({0: record})
        self.assertIs(is_sound({0: (1, 1, 0)}), False)
        self.assertIs(is_sound({0: (2, 1), 5: (4, 1), 8: (2, 0)}), False)

    def test_no_entry_leads_to_the_top_folder(self):
        self.broken({3: (2, 0)})
        self.broken({9: (7, 0)})
        self.assertIs(is_sound({0: (2, 0), 2: (1, 0)}), False)

    def test_buckets(self):
        self.broken({2: (8,)})
        self.broken({2: (8, 4, 1)})
        self.broken({2: (1, 4, 8)})
        self.broken({2: (9, 4)})                       # the name i, in the bucket of h
        self.broken({2: (0, 4)})
        self.broken({2: (27, 4)})                      # no name has a letter of the value 0
        self.broken({2: (54, 4)})
        self.broken({5: (27, 4, 4, 1)}, [2])           # as az it would stand in its own bucket, ahead of d
        self.broken({2: (531441 + 7, 4)})
        self.broken({2: (551881, 4)})                  # five letters, all of them a, in their own bucket
        self.broken({2: (999999, 4)})
        self.broken({2: (8, 4, 1, 4), 32: (1, 2, 0)})  # h ahead of a
        self.broken({2: (8, 4, 8, 4), 32: (1, 2, 0)})  # h twice
        self.assertIs(is_sound({**WHOLE, 2: (1, 4, 8, 4), 32: (1, 2, 0)}), True)

    def test_buckets_ascend_by_texts_not_by_numbers(self):
        # aaab has the number 20441 and h has 8, both in bucket 2.
        self.assertIs(is_sound({**TOP, 2: (20441, 1, 8, 1), 8: (1, 2, 0)}), True)
        self.assertIs(is_sound({**TOP, 2: (8, 1, 20441, 1), 8: (1, 2, 0)}), False)

    def test_at_most_eight_entries(self):
        records = made(*["/" + name for name in ONE_BUCKET[:8]])
        self.assertEqual(len(records[2]), 16)
        self.assertIs(is_sound({**records, 2: records[2] + (1, 1)}), False)
        nine = sorted((name, node) for node, name in enumerate(ONE_BUCKET, start=1))
        numbers = {"a": 1, "h": 8, "o": 15, "v": 22, "ab": 29, "ai": 36, "ap": 43, "aw": 50, "aaab": 20441}
        bucket = tuple(number for name, node in nine for number in (numbers[name], node))
        self.assertIs(is_sound({**TOP, 2: bucket, **{8 * node: (1, 1, 0) for node in range(1, 10)}}), False)

    def test_entries_lead_to_nodes_that_are_there(self):
        for target in (6, 63, 64, 1000002):
            self.broken({3: (2, target)})

    def test_one_entry_for_each_folder_and_in_its_parent(self):
        self.broken({3: (2, 1)})
        self.broken({3: (2, 5)})
        self.broken({9: (7, 3)})
        self.broken({24: (2, 0)})
        self.broken({24: (2, 5)})
        self.broken({24: (2, 2)})
        self.broken({24: (2, 63)})
        self.broken({48: (2, 0)})
        self.broken({}, [5])
        self.broken({}, [14])

    def test_rings_of_folders(self):
        self.assertIs(is_sound({**TOP, 8: (2, 2), 10: (1, 2), 16: (2, 1), 18: (1, 1)}), False)
        self.assertIs(is_sound({**TOP, 8: (2, 1), 10: (1, 1)}), False)
        self.assertIs(is_sound({**TOP, 2: (1, 1), 8: (2, 0), 10: (1, 2), 16: (2, 1)}), True)

    def test_the_deepest_folders(self):
        records = {**TOP, 2: (1, 1)}
        for node in range(1, 64):
            records[8 * node] = (2, node - 1)
            if node < 63:
                records[8 * node + 2] = (1, node + 1)
        self.assertIs(is_sound(records), True)
        self.assertIs(is_sound({**records, 506: (1, 1)}), False)

    def test_links(self):
        self.broken({}, [7])
        self.broken({3: (2, 2)})
        self.broken({3: (2, 4)})
        self.broken({16: (1, 3, 11)})

    def test_values(self):
        for record in ((1, 0, 0, 0, 0, 0, 0), (1, 0, 0, 0, 0, 0, 0, 0, 0), (1000, 0, 0, 0, 0, 0, 0, 0), (0,) * 8,
                       (1,), (5, 3)):
            self.broken({17: record})
        for record in ((0, 0, 5, 1, 0, 0, 0, 0), (0, 0, 5, 0, 0, 0, 0, 1), (0, 0, 0, 0, 0, 0, 0, 0)):
            self.broken({18: record})
        self.broken({19: (1, 0, 0, 0, 0, 0, 0, 0)})
        self.broken({33: (1, 0, 0, 0, 0, 0, 0, 0)})
        self.assertIs(is_sound({**WHOLE, 16: (1, 2, 56), 23: (0, 0, 0, 0, 0, 0, 0, 1)}), True)
        self.assertIs(is_sound({**WHOLE, 16: (1, 2, 55), 23: (0, 0, 0, 0, 0, 0, 0, 1)}), False)

    def test_nothing_is_changed(self):
        before = dict(WHOLE)
        is_sound(WHOLE)
        self.assertEqual(WHOLE, before)

    def test_rows_of_deeds(self):
        for seed in range(20):
            chance = random.Random(100 + seed)
            records, table = dict(TOP), Table()
            for _ in range(100):
                deed = some_deed(chance, table)
                if refusal(done, records, *deed) is None:
                    records = done(records, *deed)
                    table.do(*deed)
                    self.assertIs(is_sound(records), True)
            for key in records:
                self.assertIs(is_sound({other: records[other] for other in records if other != key}),
                              not key % 8 == 0 and records.get(key - key % 8)[0] == 1, (seed, key))


if __name__ == "__main__":
    unittest.main()
