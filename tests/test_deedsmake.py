import random
import unittest

from bornroots.deedsmake import with_file, with_folder, with_link, without_name
from bornroots.folders import names_in
from bornroots.nodes import head_of
from bornroots.walkpath import walk

from records import NO_PATHS, ONE_BUCKET, TOP, files_in, made
from refusals import Text, refusal


class MakingTest(unittest.TestCase):
    def test_the_example(self):
        told = with_file(TOP, "/f")
        self.assertEqual(told, ({0: (2, 0), 7: (6, 1), 8: (1, 1, 0)}, 1))
        self.assertIsInstance(told, tuple)

    def test_a_folder(self):
        told = with_folder(TOP, "/f")
        self.assertEqual(told, ({0: (2, 0), 7: (6, 1), 8: (2, 0)}, 1))
        records, node = with_folder(told[0], "/f/a")
        self.assertEqual(node, 2)
        self.assertEqual(records, {0: (2, 0), 7: (6, 1), 8: (2, 0), 10: (1, 2), 16: (2, 1)})
        records, node = with_file(records, "/f/a/a")
        self.assertEqual(node, 3)
        self.assertEqual(records, {0: (2, 0), 7: (6, 1), 8: (2, 0), 10: (1, 2), 16: (2, 1), 18: (1, 3), 24: (1, 1, 0)})

    def test_the_example_of_two_files_in_one_bucket(self):
        self.assertEqual(made("/a", "/h"), {0: (2, 0), 2: (1, 1, 8, 2), 8: (1, 1, 0), 16: (1, 1, 0)})

    def test_the_least_node_is_taken(self):
        records = without_name(made("/a", "/b", "/c"), "/b")
        self.assertEqual(with_folder(records, "/x")[1], 2)
        self.assertEqual(with_file(records, "/x")[1], 2)
        self.assertEqual(with_file(with_file(records, "/x")[0], "/y")[1], 4)

    def test_top_folder(self):
        for make in (with_folder, with_file):
            self.assertEqual(refusal(make, TOP, "/"), ("TopFolder", "/"))

    def test_upper(self):
        records = made("/d/", "/f")
        for make in (with_folder, with_file):
            for path in ("/x/y", "/d/x/y", "/x/f/y"):
                self.assertEqual(refusal(make, records, path), ("NoName", path))
            for path in ("/f/x", "/f/x/y"):
                self.assertEqual(refusal(make, records, path), ("NotFolder", path))

    def test_taken(self):
        records = made("/d/", "/f", "/d/e/")
        for make in (with_folder, with_file):
            for path in ("/d", "/f", "/d/e"):
                self.assertEqual(refusal(make, records, path), ("Taken", path))

    def full_of_nodes(self):
        return made("/d/", *files_in("/d", 40), "/e/", *files_in("/e", 21))

    def test_no_node(self):
        records = self.full_of_nodes()
        self.assertEqual(len([key for key in records if key % 8 == 0]), 64)
        for make in (with_folder, with_file):
            self.assertEqual(refusal(make, records, "/x"), ("NoNode", "/x"))
            self.assertEqual(refusal(make, records, "/d"), ("Taken", "/d"))
            self.assertEqual(refusal(make, records, "/x/y"), ("NoName", "/x/y"))
        self.assertEqual(with_file(without_name(records, "/e/au"), "/x")[1], 63)

    def test_node_63_is_the_last_one(self):
        records = made("/d/", *files_in("/d", 40), "/e/", *files_in("/e", 20))
        self.assertEqual(with_folder(records, "/x")[1], 63)

    def test_folder_full(self):
        records = made(*["/" + name for name in ONE_BUCKET[:8]])
        for make in (with_folder, with_file):
            self.assertEqual(refusal(make, records, "/aaab"), ("FolderFull", "/aaab"))
            self.assertEqual(refusal(make, records, "/a"), ("Taken", "/a"))
            self.assertEqual(make(records, "/b")[1], 9)
        self.assertEqual(with_file(without_name(records, "/h"), "/aaab")[1], 2)

    def test_no_node_comes_ahead_of_folder_full(self):
        records = made(*["/" + name for name in ONE_BUCKET[:8]], "/d/", *files_in("/d", 40), "/e/", *files_in("/e", 13))
        for make in (with_folder, with_file):
            self.assertEqual(refusal(make, records, "/aaab"), ("NoNode", "/aaab"))

    def test_bad_path_ahead_of_all_else(self):
        for make in (with_folder, with_file, without_name):
            for path in NO_PATHS:
                self.assertEqual(refusal(make, self.full_of_nodes(), path), ("BadPath", path))
        path = Text("/A")
        self.assertIs(refusal(with_file, TOP, path)[1], path)

    def test_what_was_handed_in_stays(self):
        records = made("/d/", "/a")
        before = dict(records)
        for make in (with_folder, with_file):
            told, _ = make(records, "/h")
            told.clear()
            make(records, "/d/x")
        self.assertEqual(records, before)


class LinkTest(unittest.TestCase):
    def test_in_one_folder(self):
        records = made("/a")
        told = with_link(records, "/a", "/h")
        self.assertEqual(told, {0: (2, 0), 2: (1, 1, 8, 1), 8: (1, 2, 0)})
        self.assertEqual(records, made("/a"))
        told = with_link(told, "/h", "/b")
        self.assertEqual(told, {0: (2, 0), 2: (1, 1, 8, 1), 3: (2, 1), 8: (1, 3, 0)})

    def test_in_two_folders(self):
        records = made("/a", "/d/", "/a=/d/a")
        self.assertEqual(records, {0: (2, 0), 2: (1, 1), 5: (4, 2), 8: (1, 2, 0), 16: (2, 0), 18: (1, 1)})

    def test_other_values_of_the_file_stay(self):
        records = {**made("/a"), 8: (1, 1, 3), 9: (5, 6, 7, 0, 0, 0, 0, 0)}
        told = with_link(records, "/a", "/h")
        self.assertEqual(told, {0: (2, 0), 2: (1, 1, 8, 1), 8: (1, 2, 3), 9: (5, 6, 7, 0, 0, 0, 0, 0)})

    def test_refusals(self):
        records = made("/a", "/d/", "/f")
        for path, other, told in (
                ("/x", "/", ("TopFolder", "/")), ("/d", "/", ("TopFolder", "/")), ("/", "/", ("TopFolder", "/")),
                ("/x", "/x/y", ("NoName", "/x")), ("/f/x", "/x/y", ("NotFolder", "/f/x")),
                ("/d/x", "/a", ("NoName", "/d/x")),
                ("/d", "/x/y", ("IsFolder", "/d")), ("/", "/x/y", ("IsFolder", "/")), ("/d", "/d", ("IsFolder", "/d")),
                ("/d", "/a", ("IsFolder", "/d")),
                ("/a", "/x/y", ("NoName", "/x/y")), ("/a", "/f/y", ("NotFolder", "/f/y")),
                ("/a", "/a/y", ("NotFolder", "/a/y")),
                ("/a", "/a", ("Taken", "/a")), ("/a", "/f", ("Taken", "/f")), ("/a", "/d", ("Taken", "/d"))):
            self.assertEqual(refusal(with_link, records, path, other), told, (path, other))

    def test_forms_from_the_left_ahead_of_all_else(self):
        records = made("/a")
        for path in NO_PATHS:
            self.assertEqual(refusal(with_link, records, path, "//"), ("BadPath", path))
            self.assertEqual(refusal(with_link, records, path, "/"), ("BadPath", path))
            self.assertEqual(refusal(with_link, records, "/x", path), ("BadPath", path))
            self.assertEqual(refusal(with_link, records, "/", path), ("BadPath", path))

    def test_folder_full(self):
        records = made(*["/" + name for name in ONE_BUCKET[:8]], "/d/")
        self.assertEqual(refusal(with_link, records, "/a", "/aaab"), ("FolderFull", "/aaab"))
        self.assertEqual(refusal(with_link, records, "/a", "/h"), ("Taken", "/h"))
        self.assertEqual(names_in(with_link(records, "/a", "/d/aaab"), 9), ["aaab"])

    def test_needs_no_node(self):
        records = made("/d/", *files_in("/d", 40), "/e/", *files_in("/e", 21))
        self.assertEqual(walk(with_link(records, "/d/aa", "/x"), "/x"), 2)


class UnlinkTest(unittest.TestCase):
    def test_the_last_name_of_a_file(self):
        records = {**made("/a", "/h"), 9: (5, 0, 0, 0, 0, 0, 0, 0), 15: (1,) * 8, 8: (1, 1, 56)}
        before = dict(records)
        self.assertEqual(without_name(records, "/a"), {0: (2, 0), 2: (8, 2), 16: (1, 1, 0)})
        self.assertEqual(records, before)

    def test_another_name_of_a_file(self):
        records = made("/a", "/d/", "/a=/d/a", "/a=/h")
        told = without_name(records, "/a")
        self.assertEqual(told, {0: (2, 0), 2: (8, 1), 5: (4, 2), 8: (1, 2, 0), 16: (2, 0), 18: (1, 1)})
        told = without_name(told, "/d/a")
        self.assertEqual(told, {0: (2, 0), 2: (8, 1), 5: (4, 2), 8: (1, 1, 0), 16: (2, 0)})
        self.assertEqual(without_name(told, "/h"), {0: (2, 0), 5: (4, 2), 16: (2, 0)})

    def test_values_stay_while_a_name_is_left(self):
        records = {**made("/a", "/a=/b"), 8: (1, 2, 1), 9: (5, 0, 0, 0, 0, 0, 0, 0)}
        self.assertEqual(without_name(records, "/b"), {0: (2, 0), 2: (1, 1), 8: (1, 1, 1), 9: (5, 0, 0, 0, 0, 0, 0, 0)})

    def test_folders(self):
        records = made("/d/", "/d/e/", "/d/e/f")
        self.assertEqual(refusal(without_name, records, "/d"), ("NotEmpty", "/d"))
        self.assertEqual(refusal(without_name, records, "/d/e"), ("NotEmpty", "/d/e"))
        records = without_name(records, "/d/e/f")
        self.assertEqual(refusal(without_name, records, "/d"), ("NotEmpty", "/d"))
        records = without_name(records, "/d/e")
        self.assertEqual(records, made("/d/"))
        self.assertEqual(without_name(records, "/d"), TOP)

    def test_refusals(self):
        records = made("/d/", "/f")
        self.assertEqual(refusal(without_name, records, "/"), ("TopFolder", "/"))
        self.assertEqual(refusal(without_name, TOP, "/"), ("TopFolder", "/"))
        for path in ("/x", "/d/x", "/x/y", "/d/x/y"):
            self.assertEqual(refusal(without_name, records, path), ("NoName", path))
        for path in ("/f/x", "/f/x/y"):
            self.assertEqual(refusal(without_name, records, path), ("NotFolder", path))


class ModelTest(unittest.TestCase):
    """Long rows of deeds on a plain table from paths to nodes, of which only names in a folder are limited."""

    def test_rows_of_deeds(self):
        for seed in range(25):
            chance = random.Random(seed)
            records, table, links = dict(TOP), {"/": 0}, {}
            for _ in range(150):
                path, other = self.some(chance, table), self.some(chance, table)
                deed = chance.choice(["file", "folder", "link", "unlink"])
                before = dict(records)
                told, what = self.told(deed, path, other, table, links)
                calls = {"file": (with_file, path), "folder": (with_folder, path), "link": (with_link, path, other),
                         "unlink": (without_name, path)}
                call, *given = calls[deed]
                if told is not None:
                    self.assertEqual(refusal(call, records, *given), (told, what), (seed, deed, given))
                else:
                    result = call(records, *given)
                    self.assertEqual(records, before)
                    records = result[0] if deed in ("file", "folder") else result
                    self.do(deed, path, other, table, links, result)
                self.check(records, table, links)

    def some(self, chance, table):
        path = chance.choice(sorted(table))
        if chance.random() < 0.7:
            path = (path if path != "/" else "") + "/" + chance.choice("abcdh")
        return path if path.count("/") <= 4 else "/a"

    def refused_walk(self, path, table, links):
        for many in range(1, path.count("/") + 1):
            part = "/".join(path.split("/")[:many]) or "/"
            if part not in table:
                return "NoName"
            if table[part] in links:
                return "NotFolder"
        return None if path in table else "NoName"

    def refused_upper(self, path, table, links):
        told = self.refused_walk(path.rpartition("/")[0] or "/", table, links)
        is_file = table.get(path.rpartition("/")[0] or "/") in links
        return told or ("NotFolder" if is_file else None)

    def told(self, deed, path, other, table, links):
        if deed == "link":
            if other == "/":
                return ("TopFolder", other)
            told = self.refused_walk(path, table, links)
            if told or table[path] not in links:
                return (told or "IsFolder", path)
            return self.refused_upper(other, table, links) or ("Taken" if other in table else None), other
        if path == "/":
            return ("TopFolder", path)
        if deed == "unlink":
            told = self.refused_walk(path, table, links)
            full = any(key.startswith(path + "/") for key in table)
            return told or ("NotEmpty" if full else None), path
        return self.refused_upper(path, table, links) or ("Taken" if path in table else None), path

    def do(self, deed, path, other, table, links, result):
        if deed == "link":
            table[other] = table[path]
            links[table[path]] += 1
        elif deed == "unlink":
            node = table.pop(path)
            if node in links:
                links[node] -= 1
                if links[node] == 0:
                    del links[node]
        else:
            self.assertEqual(result[1], min(set(range(1, 64)) - set(table.values())))
            table[path] = result[1]
            if deed == "file":
                links[result[1]] = 1

    def check(self, records, table, links):
        for path, node in table.items():
            self.assertEqual(walk(records, path), node)
            upper = "/" if path.count("/") == 1 else path.rpartition("/")[0]
            if node in links:
                self.assertEqual(head_of(records, node), (1, links[node], 0))
            else:
                self.assertEqual(head_of(records, node), (2, table[upper]))
                start = path if path != "/" else ""
                names = [key[len(start) + 1:] for key in table if key.startswith(start + "/") and key != "/"]
                self.assertEqual(names_in(records, node), sorted(name for name in names if "/" not in name))
        self.assertEqual({key // 8 for key in records}, set(table.values()))


class ThereAndBackTest(unittest.TestCase):
    def test_make_then_unlink(self):
        for lines in ((), ("/a", "/h"), ("/d/", "/d/a", "/d/a=/h")):
            records = made(*lines)
            for make in (with_file, with_folder):
                for path in ("/o", "/b", "/zzzz"):
                    self.assertEqual(without_name(make(records, path)[0], path), records)

    def test_link_then_unlink(self):
        records = made("/d/", "/a", "/h")
        for other in ("/o", "/d/a", "/b"):
            self.assertEqual(without_name(with_link(records, "/a", other), other), records)

    def test_which_name_was_first_is_not_told(self):
        self.assertEqual(without_name(made("/a", "/a=/h"), "/a"), made("/h"))


if __name__ == "__main__":
    unittest.main()
