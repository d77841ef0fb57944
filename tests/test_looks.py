import unittest

from bornroots.deedsdata import with_values
from bornroots.looks import names_at, need_window, told_at, values_at

from records import NO_PATHS, ONE_BUCKET, TOP, made
from refusals import Text, refusal


def file_of(many):
    """Records with the file /f of so many values 1, 2, .."""
    records = made("/f")
    for at in range(0, many, 8):
        records = with_values(records, "/f", at, list(range(at + 1, min(at + 8, many) + 1)))
    return records


class ReadTest(unittest.TestCase):
    def test_the_example(self):
        records = with_values(made("/f"), "/f", 9, [0, 7])
        self.assertEqual(values_at(records, "/f", 8, 5), [0, 0, 7])
        self.assertEqual(told_at(records, "/f"), ("file", 1, 1, 11))

    def test_each_window(self):
        for length in (0, 1, 7, 8, 9, 20, 56):
            records = file_of(length)
            whole = list(range(1, length + 1))
            for at in range(56):
                for many in (0, 1, 2, 8, 17, 55, 56):
                    self.assertEqual(values_at(records, "/f", at, many), whole[at:at + many], (length, at, many))

    def test_values_that_were_never_written_are_noughts(self):
        self.assertEqual(values_at(with_values(made("/f"), "/f", 20, [3]), "/f", 0, 56), [0] * 20 + [3])

    def test_by_another_name(self):
        self.assertEqual(values_at(with_values(made("/f", "/d/", "/f=/d/g"), "/f", 0, [4]), "/d/g", 0, 56), [4])

    def test_refusals_in_their_order(self):
        records = made("/d/", "/f")
        for path in NO_PATHS:
            self.assertEqual(refusal(values_at, records, path, 56, 57), ("BadPath", path))
        for path in ("/f", "/x", "/d", "/f/x"):
            for at in (-1, 56):
                self.assertEqual(refusal(values_at, records, path, at, 57), ("BadNumber", at))
            for many in (-1, 57):
                self.assertEqual(refusal(values_at, records, path, 55, many), ("BadNumber", many))
        for path, name in (("/x", "NoName"), ("/x/y", "NoName"), ("/f/x", "NotFolder"), ("/d", "IsFolder"),
                           ("/", "IsFolder")):
            self.assertEqual(refusal(values_at, records, path, 0, 0), (name, path))
        path = Text("/d")
        self.assertIs(refusal(values_at, records, path, 0, 0)[1], path)

    def test_need_window(self):
        for at, many in ((0, 0), (55, 56), (0, 56), (55, 0)):
            self.assertIsNone(need_window(at, many))
        for at, many, bad in ((-1, -1, -1), (56, 57, 56), (0, 57, 57), (55, -2, -2)):
            self.assertEqual(refusal(need_window, at, many), ("BadNumber", bad))


class NamesTest(unittest.TestCase):
    def test_ascending_as_texts(self):
        self.assertEqual(names_at(made("/b", "/aa", "/a", "/zz/", "/ab"), "/"), ["a", "aa", "ab", "b", "zz"])
        records = made("/d/", *["/d/" + name for name in ONE_BUCKET[::-1][1:]], "/d/z")
        self.assertEqual(names_at(records, "/d"), sorted([*ONE_BUCKET[:8], "z"]))
        self.assertEqual(names_at(records, "/"), ["d"])

    def test_empty(self):
        self.assertEqual(names_at(TOP, "/"), [])
        self.assertEqual(names_at(made("/d/"), "/d"), [])

    def test_refusals(self):
        records = made("/d/", "/f", "/f=/d/g")
        for path in NO_PATHS:
            self.assertEqual(refusal(names_at, records, path), ("BadPath", path))
        for path, name in (("/x", "NoName"), ("/d/x", "NoName"), ("/f", "NotFolder"), ("/d/g", "NotFolder"),
                           ("/f/x", "NotFolder")):
            self.assertEqual(refusal(names_at, records, path), (name, path))


class ToldTest(unittest.TestCase):
    def test_files_and_folders(self):
        records = made("/d/", "/f", "/f=/d/g", "/h")
        self.assertEqual(told_at(records, "/"), ("folder", 0))
        self.assertEqual(told_at(records, "/d"), ("folder", 1))
        self.assertEqual(told_at(records, "/f"), ("file", 2, 2, 0))
        self.assertEqual(told_at(records, "/d/g"), ("file", 2, 2, 0))
        self.assertEqual(told_at(with_values(records, "/h", 3, [0]), "/h"), ("file", 3, 1, 4))

    def test_refusals(self):
        records = made("/d/", "/f")
        for path in NO_PATHS:
            self.assertEqual(refusal(told_at, records, path), ("BadPath", path))
        for path, name in (("/x", "NoName"), ("/d/x", "NoName"), ("/f/x", "NotFolder"), ("/f/x/y", "NotFolder")):
            self.assertEqual(refusal(told_at, records, path), (name, path))


class NewListsTest(unittest.TestCase):
    def test_spoilt_lists_change_nothing(self):
        records = file_of(3)
        before = dict(records)
        for look in (lambda: values_at(records, "/f", 0, 56), lambda: names_at(records, "/")):
            told = look()
            self.assertIsInstance(told, list)
            kept = list(told)
            told.append(0)
            told[0] = 77
            self.assertEqual(look(), kept)
        self.assertIsInstance(told_at(records, "/f"), tuple)
        self.assertEqual(records, before)


if __name__ == "__main__":
    unittest.main()
