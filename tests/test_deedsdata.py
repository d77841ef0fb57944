import unittest

from bornroots.deedsdata import need_length, need_span, with_length, with_values

from records import NO_PATHS, TOP, made
from refusals import Text, refusal

FILE = made("/f")


def with_data(length, *rows):
    """The records of FILE with this length, and these rows of values behind one another."""
    records = {**FILE, 8: (1, 1, length)}
    for at, row in enumerate(rows):
        if any(row):
            records[9 + at] = row
    return records


def full():
    """FILE with 56 values, the value with the index i being i + 1."""
    return with_data(56, *[tuple(range(8 * j + 1, 8 * j + 9)) for j in range(7)])


class WriteTest(unittest.TestCase):
    def test_the_example(self):
        records = with_values(FILE, "/f", 0, [5])
        self.assertEqual(records, {0: (2, 0), 7: (6, 1), 8: (1, 1, 1), 9: (5, 0, 0, 0, 0, 0, 0, 0)})
        records = with_values(records, "/f", 9, [0, 7])
        self.assertEqual(records, {0: (2, 0), 7: (6, 1), 8: (1, 1, 11), 9: (5, 0, 0, 0, 0, 0, 0, 0),
                                   10: (0, 0, 7, 0, 0, 0, 0, 0)})
        records = with_length(records, "/f", 1)
        self.assertEqual(records, {0: (2, 0), 7: (6, 1), 8: (1, 1, 1), 9: (5, 0, 0, 0, 0, 0, 0, 0)})

    def test_at_its_edges(self):
        self.assertEqual(with_values(FILE, "/f", 0, [999]), with_data(1, (999, 0, 0, 0, 0, 0, 0, 0)))
        told = with_values(FILE, "/f", 55, [1])
        self.assertEqual(told, {**FILE, 8: (1, 1, 56), 15: (0, 0, 0, 0, 0, 0, 0, 1)})
        for at in (56, -1, 57, 1000002):
            for values in ([1], [], [1000]):
                self.assertEqual(refusal(with_values, FILE, "/f", at, values), ("BadNumber", at))

    def test_how_many_values(self):
        sixteen = tuple(range(1, 17))
        told = with_data(16, sixteen[:8], sixteen[8:])
        self.assertEqual(with_values(FILE, "/f", 0, sixteen), told)
        self.assertEqual(with_values(FILE, "/f", 0, list(sixteen)), told)
        self.assertEqual(refusal(with_values, FILE, "/f", 0, []), ("BadNumber", 0))
        self.assertEqual(refusal(with_values, FILE, "/f", 0, ()), ("BadNumber", 0))
        self.assertEqual(refusal(with_values, FILE, "/f", 0, [1] * 17), ("BadNumber", 17))
        self.assertEqual(refusal(with_values, FILE, "/f", 0, (1000,) * 17), ("BadNumber", 17))

    def test_values_beyond(self):
        self.assertEqual(with_values(FILE, "/f", 0, [0, 999]), with_data(2, (0, 999, 0, 0, 0, 0, 0, 0)))
        for values, bad in (([1000], 1000), ([-1], -1), ([0, 999, -5, 1000], -5), ((1, 1001, -1), 1001)):
            self.assertEqual(refusal(with_values, FILE, "/f", 0, values), ("BadNumber", bad))

    def test_over_the_border_of_a_record(self):
        told = with_values(FILE, "/f", 6, [1, 2, 3])
        self.assertEqual(told, with_data(9, (0, 0, 0, 0, 0, 0, 1, 2), (3, 0, 0, 0, 0, 0, 0, 0)))

    def test_in_the_midst_the_length_stays(self):
        told = with_values(full(), "/f", 7, [0, 500])
        self.assertEqual(told, {**full(), 9: (1, 2, 3, 4, 5, 6, 7, 0), 10: (500, 10, 11, 12, 13, 14, 15, 16)})
        self.assertEqual(with_values(full(), "/f", 55, [0])[15], (49, 50, 51, 52, 53, 54, 55, 0))

    def test_up_to_56_values(self):
        for many in (1, 2, 16):
            self.assertEqual(with_values(FILE, "/f", 56 - many, [0] * many), {**FILE, 8: (1, 1, 56)})
        for at, many in ((55, 2), (41, 16), (55, 16)):
            self.assertEqual(refusal(with_values, FILE, "/f", at, [0] * many), ("TooLong", "/f"))
            self.assertEqual(refusal(with_values, full(), "/f", at, [1] * many), ("TooLong", "/f"))
        self.assertIsNone(refusal(with_values, full(), "/f", 40, [1] * 16))

    def test_gaps_become_noughts(self):
        told = with_values(with_data(1, (5, 0, 0, 0, 0, 0, 0, 0)), "/f", 20, [9])
        self.assertEqual(told, with_data(21, (5, 0, 0, 0, 0, 0, 0, 0), (0,) * 8, (0, 0, 0, 0, 9, 0, 0, 0)))

    def test_a_record_of_noughts_is_not_there(self):
        self.assertEqual(with_values(FILE, "/f", 0, [0] * 9), with_data(9))
        records = with_data(10, (1, 0, 0, 0, 0, 0, 0, 0), (2, 3, 0, 0, 0, 0, 0, 0))
        self.assertEqual(with_values(records, "/f", 8, [0, 0]), with_data(10, (1, 0, 0, 0, 0, 0, 0, 0)))
        self.assertEqual(with_values(records, "/f", 0, [0]), with_data(10, (0,) * 8, (2, 3, 0, 0, 0, 0, 0, 0)))

    def test_equal_values_change_nothing(self):
        self.assertEqual(with_values(full(), "/f", 3, [4, 5, 6]), full())
        self.assertEqual(with_values(with_data(3), "/f", 0, [0, 0, 0]), with_data(3))

    def test_other_records_stay(self):
        records = {**made("/a", "/f", "/f=/g", "/d/"), 9: (7, 0, 0, 0, 0, 0, 0, 0), 8: (1, 1, 1)}
        told = with_values(records, "/g", 0, [3])
        self.assertEqual(told, {**records, 16: (1, 2, 1), 17: (3, 0, 0, 0, 0, 0, 0, 0)})
        self.assertEqual(with_values(records, "/f", 0, [3]), told)

    def test_refusals_in_their_order(self):
        records = made("/d/", "/f")
        for path in NO_PATHS:
            self.assertEqual(refusal(with_values, records, path, 56, []), ("BadPath", path))
        for path in ("/x", "/f/x", "/d"):
            self.assertEqual(refusal(with_values, records, path, 56, []), ("BadNumber", 56))
            self.assertEqual(refusal(with_values, records, path, 55, [1000] * 17), ("BadNumber", 17))
            self.assertEqual(refusal(with_values, records, path, 55, [1000] * 16), ("BadNumber", 1000))
        for path, name in (("/x", "NoName"), ("/d/x", "NoName"), ("/f/x", "NotFolder"), ("/d", "IsFolder"),
                           ("/", "IsFolder"), ("/f", "TooLong")):
            self.assertEqual(refusal(with_values, records, path, 55, [1, 1]), (name, path))
        path = Text("/d")
        self.assertIs(refusal(with_values, records, path, 0, [1])[1], path)

    def test_what_is_handed_in_stays(self):
        records, values = with_data(1, (5, 0, 0, 0, 0, 0, 0, 0)), [1, 2]
        told = with_values(records, "/f", 1, values)
        values[0] = 9
        self.assertEqual(told[9], (5, 1, 2, 0, 0, 0, 0, 0))
        told.clear()
        with_length(records, "/f", 0).clear()
        self.assertEqual(records, with_data(1, (5, 0, 0, 0, 0, 0, 0, 0)))


class CutTest(unittest.TestCase):
    def test_each_length(self):
        for length in range(57):
            told = with_length(full(), "/f", length)
            rows = [tuple(i + 1 if i < length else 0 for i in range(8 * j, 8 * j + 8)) for j in range(7)]
            self.assertEqual(told, with_data(length, *rows))
            self.assertEqual(with_length(told, "/f", 56), with_data(56, *rows))

    def test_longer(self):
        self.assertEqual(with_length(FILE, "/f", 56), {**FILE, 8: (1, 1, 56)})
        self.assertEqual(with_length(with_data(1, (5,) + (0,) * 7), "/f", 9), with_data(9, (5,) + (0,) * 7))

    def test_its_own_length_changes_nothing(self):
        for records in (FILE, full(), with_data(7)):
            self.assertEqual(with_length(records, "/f", records[8][2]), records)

    def test_links_and_other_files_stay(self):
        records = made("/f", "/g", "/f=/h")
        self.assertEqual(with_length(records, "/h", 4), {**records, 8: (1, 2, 4)})

    def test_refusals_in_their_order(self):
        records = made("/d/", "/f")
        for path in NO_PATHS:
            self.assertEqual(refusal(with_length, records, path, 57), ("BadPath", path))
        for path in ("/f", "/x", "/f/x", "/d"):
            for length in (57, -1, 1000002):
                self.assertEqual(refusal(with_length, records, path, length), ("BadNumber", length))
        for path, name in (("/x", "NoName"), ("/f/x", "NotFolder"), ("/d", "IsFolder"), ("/", "IsFolder")):
            for length in (0, 56):
                self.assertEqual(refusal(with_length, records, path, length), (name, path))


class NeedTest(unittest.TestCase):
    def test_need_span(self):
        for at, values in ((0, [0]), (55, (999,)), (0, [0] * 16), (55, [999] * 16)):
            self.assertIsNone(need_span(at, values))
        for at, values, bad in ((-1, [], -1), (56, [1], 56), (0, [], 0), (0, (), 0), (1, [1] * 17, 17),
                                (5, [1000], 1000), (5, (3, -1, 1000), -1)):
            self.assertEqual(refusal(need_span, at, values), ("BadNumber", bad))

    def test_need_length(self):
        for length in (0, 1, 56):
            self.assertIsNone(need_length(length))
        for length in (-1, 57):
            self.assertEqual(refusal(need_length, length), ("BadNumber", length))

    def test_no_file_at_all(self):
        self.assertEqual(refusal(with_values, TOP, "/f", 0, [1]), ("NoName", "/f"))
        self.assertEqual(refusal(with_length, TOP, "/f", 0), ("NoName", "/f"))


if __name__ == "__main__":
    unittest.main()
