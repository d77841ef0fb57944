import itertools
import random
import unittest

from bornroots.folders import bucket_of, entry_of, is_full, names_in, with_entry, without_entry
from bornroots.namecodes import name_number

# Nine names of one bucket, ascending as texts; their numbers do not ascend.
ONE_BUCKET = ["a", "aaa", "aaab", "ab", "ai", "ap", "bc", "h", "o"]


def filled(names, node=0):
    records = {8 * node: (2, 0)}
    for at, name in enumerate(names):
        records = with_entry(records, node, name, at + 1)
    return records


class BucketTest(unittest.TestCase):
    def test_bucket_of(self):
        for name, place in (("a", 2), ("f", 7), ("g", 1), ("h", 2), ("z", 6), ("aa", 1), ("ab", 2), ("zzzz", 1)):
            self.assertEqual(bucket_of(name), place, name)
        for letters in itertools.product("abcdefghij", repeat=3):
            self.assertEqual(bucket_of("".join(letters)), 1 + name_number("".join(letters)) % 7)

    def test_the_names_of_these_tests(self):
        self.assertEqual({bucket_of(name) for name in ONE_BUCKET}, {2})
        self.assertEqual(sorted(ONE_BUCKET), ONE_BUCKET)


class EntriesTest(unittest.TestCase):
    def test_the_example(self):
        records = with_entry(with_entry({0: (2, 0)}, 0, "h", 2), 0, "a", 1)
        self.assertEqual(records, {0: (2, 0), 2: (1, 1, 8, 2)})
        self.assertEqual(entry_of(records, 0, "h"), 2)
        self.assertEqual(entry_of(records, 0, "a"), 1)
        self.assertEqual(names_in(records, 0), ["a", "h"])

    def test_texts_not_numbers_order_a_bucket(self):
        names = ["aaab", "h", "ab", "o", "a", "aaa"]
        record = filled(names)[2]
        self.assertEqual(list(record[::2]), [name_number(name) for name in sorted(names)])
        self.assertNotEqual(list(record[::2]), sorted(record[::2]))
        self.assertEqual(list(record[1::2]), [names.index(name) + 1 for name in sorted(names)])

    def test_names_over_all_buckets_in_the_order_of_texts(self):
        names = ["b", "aa", "zz", "a", "c", "abc", "d", "e", "f", "g", "h"]
        records = filled(names, 5)
        self.assertEqual(names_in(records, 5), sorted(names))
        self.assertEqual(names_in(records, 4), [])
        for at, name in enumerate(names):
            self.assertEqual(entry_of(records, 5, name), at + 1)
        for name in ("i", "ab", "zzz"):
            self.assertIsNone(entry_of(records, 5, name))
        names_in(records, 5).clear()
        self.assertEqual(names_in(records, 5), sorted(names))

    def test_eight_entries_are_full(self):
        records = {0: (2, 0)}
        for at, name in enumerate(reversed(ONE_BUCKET)):
            full = at >= 8
            for other in ONE_BUCKET:
                self.assertIs(is_full(records, 0, other), full)
            self.assertIs(is_full(records, 0, "b"), False)
            self.assertIs(is_full(records, 1, "a"), False)
            if not full:
                records = with_entry(records, 0, name, at + 1)
        self.assertEqual(len(records[2]), 16)
        self.assertEqual(names_in(records, 0), ONE_BUCKET[1:])
        self.assertIs(is_full(without_entry(records, 0, "h"), 0, "a"), False)

    def test_an_empty_bucket_is_not_there(self):
        records = filled(["a"])
        self.assertEqual(records, {0: (2, 0), 2: (1, 1)})
        self.assertEqual(without_entry(records, 0, "a"), {0: (2, 0)})

    def test_other_records_stay(self):
        records = {0: (2, 0), 2: (1, 1, 8, 2), 3: (2, 9), 8: (1, 1, 0), 18: (8, 3)}
        before = dict(records)
        more = with_entry(records, 0, "o", 7)
        self.assertEqual(more, {**before, 2: (1, 1, 8, 2, 15, 7)})
        fewer = without_entry(records, 0, "a")
        self.assertEqual(fewer, {**before, 2: (8, 2)})
        self.assertEqual(records, before)
        more.clear()
        fewer.clear()
        self.assertEqual(records, before)

    def test_there_and_back_in_any_order(self):
        chance = random.Random(4)
        for _ in range(50):
            names = chance.sample(ONE_BUCKET[:8] + ["b", "c", "d", "zzzz"], 9)
            targets = {name: at + 1 for at, name in enumerate(names)}
            made = []
            for _ in range(2):
                chance.shuffle(names)
                records = {24: (2, 0)}
                for name in names:
                    records = with_entry(records, 3, name, targets[name])
                made.append(records)
            self.assertEqual(made[0], made[1])
            less = without_entry(made[0], 3, names[0])
            self.assertEqual(names_in(less, 3), sorted(names[1:]))
            self.assertEqual(with_entry(less, 3, names[0], targets[names[0]]), made[0])


if __name__ == "__main__":
    unittest.main()
