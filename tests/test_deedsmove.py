import random
import unittest

from bornroots.deedsmake import without_name
from bornroots.deedsmove import with_move
from bornroots.folders import names_in
from bornroots.nodes import head_of
from bornroots.walkpath import walk

from records import NO_PATHS, ONE_BUCKET, TOP, Table, done, made, some_deed
from refusals import Text, refusal


class MoveTest(unittest.TestCase):
    def test_a_file_in_its_folder(self):
        records = made("/a")
        self.assertEqual(with_move(records, "/a", "/b"), {0: (2, 0), 3: (2, 1), 8: (1, 1, 0)})
        self.assertEqual(with_move(records, "/a", "/h"), {0: (2, 0), 2: (8, 1), 8: (1, 1, 0)})
        self.assertEqual(records, made("/a"))

    def test_a_file_from_folder_to_folder(self):
        records = {**made("/a", "/d/"), 8: (1, 1, 2), 9: (5, 6, 0, 0, 0, 0, 0, 0)}
        told = with_move(records, "/a", "/d/x")
        self.assertEqual(told, {0: (2, 0), 5: (4, 2), 8: (1, 1, 2), 9: (5, 6, 0, 0, 0, 0, 0, 0), 16: (2, 0),
                                20: (24, 1)})
        self.assertEqual(with_move(told, "/d/x", "/a"), records)

    def test_other_names_of_a_file_and_its_head_stay(self):
        records = made("/a", "/d/", "/a=/d/a", "/a=/h")
        told = with_move(records, "/a", "/b")
        self.assertEqual(told, {0: (2, 0), 2: (8, 1), 3: (2, 1), 5: (4, 2), 8: (1, 3, 0), 16: (2, 0), 18: (1, 1)})

    def test_the_parent_of_a_folder_is_told_anew(self):
        records = made("/d/", "/d/e/", "/d/e/x", "/g/")
        told = with_move(records, "/d/e", "/g/k")
        self.assertEqual((head_of(told, 2), walk(told, "/g/k"), walk(told, "/g/k/x")), ((2, 4), 2, 3))
        self.assertEqual((names_in(told, 1), names_in(told, 4)), ([], ["k"]))
        told = with_move(told, "/g/k", "/k")
        self.assertEqual((head_of(told, 2), walk(told, "/k/x")), ((2, 0), 3))
        told = with_move(told, "/d", "/k/d")
        self.assertEqual((head_of(told, 1), names_in(told, 2), names_in(told, 0)), ((2, 2), ["d", "x"], ["g", "k"]))

    def test_a_folder_within_its_folder_keeps_its_parent(self):
        self.assertEqual(with_move(made("/d/", "/d/e/"), "/d/e", "/d/l"), made("/d/", "/d/l/"))

    def test_top_folder(self):
        records = made("/a", "/d/")
        for path, other in (("/", "/"), ("/", "/x/y"), ("/", "/a"), ("/", "/b")):
            self.assertEqual(refusal(with_move, records, path, other), ("TopFolder", "/"))
        for path in ("/a", "/d", "/x", "/a/x"):
            self.assertEqual(refusal(with_move, records, path, "/"), ("TopFolder", "/"))

    def test_which_of_two_top_folders(self):
        first, second = Text("/"), Text("/")
        self.assertIs(refusal(with_move, TOP, first, second)[1], first)
        self.assertIs(refusal(with_move, TOP, "/a", second)[1], second)

    def test_walks(self):
        records = made("/d/", "/f")
        for path, other, told in (
                ("/x", "/y/z", ("NoName", "/x")), ("/d/x", "/f", ("NoName", "/d/x")),
                ("/x/y", "/a", ("NoName", "/x/y")),
                ("/f/x", "/y/z", ("NotFolder", "/f/x")), ("/f/x/y", "/d", ("NotFolder", "/f/x/y")),
                ("/f", "/y/z", ("NoName", "/y/z")), ("/f", "/d/y/z", ("NoName", "/d/y/z")),
                ("/d", "/f/z", ("NotFolder", "/f/z")), ("/f", "/f/z", ("NotFolder", "/f/z")),
                ("/d", "/d/x/z", ("NoName", "/d/x/z"))):
            self.assertEqual(refusal(with_move, records, path, other), told, (path, other))

    def test_taken(self):
        records = made("/d/", "/f", "/d/e/", "/f=/g")
        for path, other in (("/f", "/f"), ("/d", "/d"), ("/f", "/d"), ("/d", "/f"), ("/f", "/g"), ("/f", "/d/e"),
                            ("/d", "/d/e"), ("/d/e", "/d")):
            self.assertEqual(refusal(with_move, records, path, other), ("Taken", other))
        other = Text("/f")
        self.assertIs(refusal(with_move, records, "/f", other)[1], other)

    def test_within(self):
        records = made("/d/", "/d/e/", "/d/e/f/", "/g/")
        for path, other in (("/d", "/d/x"), ("/d", "/d/e/x"), ("/d", "/d/e/f/x"), ("/d/e", "/d/e/f/x"),
                            ("/d/e", "/d/e/x")):
            self.assertEqual(refusal(with_move, records, path, other), ("Within", other))
        for path, other in (("/d/e", "/d/x"), ("/d/e", "/x"), ("/d/e", "/g/x"), ("/d/e/f", "/d/f"), ("/d", "/g/d")):
            self.assertIsNone(refusal(with_move, records, path, other))

    def test_within_comes_ahead_of_folder_full(self):
        records = made("/d/", *["/d/" + name for name in ONE_BUCKET[:8]])
        self.assertEqual(refusal(with_move, records, "/d", "/d/aaab"), ("Within", "/d/aaab"))
        self.assertEqual(refusal(with_move, records, "/d", "/d/a"), ("Taken", "/d/a"))

    def test_in_a_full_bucket_of_one_folder(self):
        records = made(*["/" + name for name in ONE_BUCKET[:8]])
        told = with_move(records, "/h", "/aaab")
        self.assertEqual(names_in(told, 0), sorted({*ONE_BUCKET} - {"h"}))
        self.assertEqual(walk(told, "/aaab"), 2)

    def test_into_a_full_bucket(self):
        records = made("/d/", *["/d/" + name for name in ONE_BUCKET[:8]], "/x", "/a", "/d/b")
        for path in ("/x", "/a", "/d/b"):
            self.assertEqual(refusal(with_move, records, path, "/d/aaab"), ("FolderFull", "/d/aaab"))
        self.assertEqual(walk(with_move(records, "/x", "/d/x"), "/d/x"), walk(records, "/x"))
        self.assertIsNone(refusal(with_move, without_name(records, "/d/h"), "/x", "/d/aaab"))

    def test_forms_from_the_left_ahead_of_all_else(self):
        for path in NO_PATHS:
            self.assertEqual(refusal(with_move, TOP, path, "//"), ("BadPath", path))
            self.assertEqual(refusal(with_move, TOP, path, "/"), ("BadPath", path))
            self.assertEqual(refusal(with_move, TOP, "/", path), ("BadPath", path))
            self.assertEqual(refusal(with_move, TOP, "/x", path), ("BadPath", path))

    def test_a_folder_comes_to_lie_deeper_than_six_names(self):
        records = made("/a/", "/a/b/", "/a/b/c/", "/k/", "/k/l/", "/k/l/m/", "/k/l/m/n/", "/k/l/m/n/o/")
        told = with_move(records, "/a", "/k/l/m/n/o/a")
        self.assertEqual((walk(told, "/k/l/m/n/o/a"), names_in(told, 1), head_of(told, 3)), (1, ["b"], (2, 2)))
        self.assertEqual(refusal(walk, told, "/k/l/m/n/o/a/b"), ("BadPath", "/k/l/m/n/o/a/b"))
        self.assertEqual(with_move(told, "/k/l/m/n/o/a", "/a"), records)
        self.assertEqual(walk(with_move(told, "/k/l/m", "/m"), "/m/n/o/a/b/c"), 3)

    def test_there_and_back(self):
        records = made("/d/", "/d/e/", "/d/f", "/a", "/h", "/a=/d/a")
        for path in ("/d/e", "/d/f", "/a", "/d/a"):
            for other in ("/x", "/o", "/d/x", "/d/v", "/d/e/x"):
                if not other.startswith(path):
                    before = dict(records)
                    told = with_move(records, path, other)
                    self.assertNotEqual(told, records)
                    self.assertEqual(with_move(told, other, path), records)
                    told.clear()
                    self.assertEqual(records, before)


class ModelTest(unittest.TestCase):
    """Long rows of deeds against the plain table."""

    def test_rows_of_deeds(self):
        for seed in range(30):
            chance = random.Random(seed)
            records, table = dict(TOP), Table()
            for _ in range(120):
                deed = some_deed(chance, table)
                told = table.refusal(*deed)
                before = dict(records)
                if told is not None:
                    self.assertEqual(refusal(done, records, *deed), told, (seed, deed))
                    continue
                after = done(records, *deed)
                self.assertEqual(records, before)
                records = after
                table.do(*deed)
                self.assertEqual({path: self.seen(records, path) for path in table.all()}, table.all(), (seed, deed))

    def seen(self, records, path):
        head = head_of(records, walk(records, path))
        if head[0] == 2:
            return names_in(records, walk(records, path))
        data = [records.get(8 * walk(records, path) + place, (0,) * 8) for place in range(1, 8)]
        values = [value for record in data for value in record]
        self.assertFalse(any(values[head[2]:]))
        return (head[1], values[:head[2]])


if __name__ == "__main__":
    unittest.main()
