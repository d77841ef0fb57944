import unittest

from bornroots.saysfiles import says_files

from pools import contents, example_pool
from rootdeeds import Case
from says import Reader


class FilesTest(Reader, Case):
    says, kind, good = says_files, "files", "read a /f 0 8"

    def test_the_example(self):
        pool = example_pool(snap=True)
        self.gives(pool, "write a /f 0 5 6", "None")
        self.gives(pool, "read a /f 0 8", "[5, 6]")
        self.refused(pool, ("BadNumber", 0), says_files, "write a /f 0")
        for line in ("write a /f 05 6", "write a /f  0 5"):
            self.bad(pool, line)

    def test_every_line(self):
        pool = example_pool(snap=True)
        for line, expected in (
                ("make_folder a /d", "2"), ("make_file a /d/g", "3"), ("link a /f /d/h", "None"),
                ("names a /", "['d', 'f']"), ("names a /d", "['g', 'h']"), ("names a@s /", "['f']"),
                ("told a /", "('folder', 0)"), ("told a /d/h", "('file', 1, 2, 0)"),
                ("told a@s /f", "('file', 1, 1, 0)"),
                ("unlink a /f", "None"), ("move a /d/h /x", "None"), ("write a /x 3 999", "None"),
                ("write a /x 40 0 1 2 3 4 5 6 7 8 9 10 11 12 13 14 15", "None"), ("read a /x 0 5", "[0, 0, 0, 999, 0]"),
                ("read a /x 41 2", "[1, 2]"), ("cut_to a /x 4", "None"), ("read a /x 0 56", "[0, 0, 0, 999]"),
                ("read a /x 4 1", "[]"), ("read a@s /f 0 9", "[]"), ("commit", "5"), ("commit", "5"),
                ("commit always", "6"), ("commit always", "7"), ("cut_to a /x 0", "None"), ("commit always", "8")):
            self.gives(pool, line, expected)
        self.assertEqual(contents(pool)["a"][8], (1, 1, 0))

    def test_numbers(self):
        self.check_numbers("write a /f", "write a /f N 5", "write a /f 0", "write a /f 0 5", "write a /f 0 5 N 5",
                           "cut_to a /f", "read a /f N 8", "read a /f 0")
        pool = example_pool(snap=True)
        self.bad(pool, "write A f x")
        for line, expected in (("read a /f 56 0", ("BadNumber", 56)), ("read a /f 0 57", ("BadNumber", 57)),
                               ("read a /f 999999 0", ("BadNumber", 999999)), ("cut_to a /f 57", ("BadNumber", 57)),
                               ("write a /f 0 1000", ("BadNumber", 1000)), ("write a /f 56 1", ("BadNumber", 56)),
                               ("write a /f 0" + " 1" * 17, ("BadNumber", 17)), ("write b /f 0", ("BadNumber", 0))):
            self.refused(pool, expected, says_files, line)

    def test_always(self):
        pool = example_pool(snap=True)
        for line in ("commit Always", "commit alway", "commit always always", "commit 1", "commit True", "commit a",
                     "commit always "):
            self.bad(pool, line)

    def test_the_refusals_of_the_calls(self):
        pool = example_pool(snap=True)
        for line, expected in (("make_file A /g", ("BadName", "A")), ("make_file a g", ("BadPath", "g")),
                               ("make_file a\t /g", ("BadName", "a\t")), ("names @ /", ("BadName", "@")),
                               ("make_file b /g", ("NoVolume", "b")), ("make_file a /f", ("Taken", "/f")),
                               ("make_folder a /", ("TopFolder", "/")), ("names a@t /", ("NoRoot", "a@t")),
                               ("told a /x", ("NoName", "/x")), ("names a /f", ("NotFolder", "/f")),
                               ("read a / 0 1", ("IsFolder", "/")), ("link a /f /f", ("Taken", "/f")),
                               ("move a /f /", ("TopFolder", "/")), ("unlink a /f/g", ("NotFolder", "/f/g")),
                               ("write a /f 55 1 2", ("TooLong", "/f")), ("unlink a@s /f", ("BadName", "a@s"))):
            self.refused(pool, expected, says_files, line)


if __name__ == "__main__":
    unittest.main()
