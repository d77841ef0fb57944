import unittest

from bornroots.deedsmake import with_file, with_folder
from bornroots.walkpath import upper, walk

from refusals import Text, refusal


def example():
    """/d (1), /d/e (2), /f a file (3), /d/e/g a file (4), /d/h a file (5)."""
    records = {0: (2, 0)}
    for make, path in ((with_folder, "/d"), (with_folder, "/d/e"), (with_file, "/f"), (with_file, "/d/e/g"),
                       (with_file, "/d/h")):
        records, _ = make(records, path)
    return records


class WalkTest(unittest.TestCase):
    def setUp(self):
        self.records = example()

    def test_walk(self):
        for path, node in (("/", 0), ("/d", 1), ("/d/e", 2), ("/f", 3), ("/d/e/g", 4), ("/d/h", 5)):
            self.assertEqual(walk(self.records, path), node)
        self.assertEqual(walk(path="/d", records=self.records), 1)

    def test_no_name_at_each_place(self):
        for path in ("/x", "/x/d", "/d/x", "/d/x/g", "/d/e/x", "/d/e/f", "/e", "/x/f/g"):
            self.assertEqual(refusal(walk, self.records, path), ("NoName", path))

    def test_a_file_at_each_place(self):
        for path in ("/f/x", "/f/f", "/f/x/y", "/d/e/g/x", "/d/e/g/g/d", "/d/h/x"):
            self.assertEqual(refusal(walk, self.records, path), ("NotFolder", path))

    def test_what_comes_first_from_the_left(self):
        self.assertEqual(refusal(walk, self.records, "/d/x/f/y"), ("NoName", "/d/x/f/y"))
        self.assertEqual(refusal(walk, self.records, "/f/x/d"), ("NotFolder", "/f/x/d"))

    def test_bad_paths(self):
        for call in (walk, upper):
            for path in ("", "d", "/d/", "//d", "/D", "/f/X", "/x/abcde", "/a/b/c/d/e/f/g", None, 3, ["/"]):
                self.assertEqual(refusal(call, self.records, path), ("BadPath", path))
            path = Text("/D")
            self.assertIs(refusal(call, self.records, path)[1], path)

    def test_the_whole_path_is_told(self):
        path = Text("/d/x/y")
        self.assertIs(refusal(walk, self.records, path)[1], path)
        self.assertIs(refusal(upper, self.records, path)[1], path)

    def test_nothing_is_changed(self):
        before = dict(self.records)
        self.test_walk()
        self.assertEqual(self.records, before)


class UpperTest(unittest.TestCase):
    def setUp(self):
        self.records = example()

    def test_upper(self):
        for path, told in (("/d", (0, "d")), ("/x", (0, "x")), ("/d/e", (1, "e")), ("/d/x", (1, "x")),
                           ("/d/e/g", (2, "g")), ("/d/e/zzzz", (2, "zzzz")), ("/f", (0, "f"))):
            self.assertEqual(upper(self.records, path), told)

    def test_of_the_top_folder(self):
        self.assertEqual(refusal(upper, self.records, "/"), ("TopFolder", "/"))

    def test_that_ends_at_a_file(self):
        for path in ("/f/x", "/f/f", "/d/h/x", "/d/e/g/g"):
            self.assertEqual(refusal(upper, self.records, path), ("NotFolder", path))

    def test_refusals_of_its_walk(self):
        for path in ("/f/x/y", "/d/h/x/y"):
            self.assertEqual(refusal(upper, self.records, path), ("NotFolder", path))
        for path in ("/x/y", "/d/x/y", "/x/f/y"):
            self.assertEqual(refusal(upper, self.records, path), ("NoName", path))


if __name__ == "__main__":
    unittest.main()
