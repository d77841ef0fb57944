import unittest

from bornroots.paths import names_of

from refusals import Text, refusal

NO_PATHS = (None, 0, 7, True, 1.5, b"/a", [], ["/a"], ("/",), {}, {"/": 1}, "", "a", "a/", "a/b", "//", "///", "/a/",
            "//a", "/a//b", "/abcde", "/a/abcde", "/A", "/aB", "/a1", "/1", "/ ", " /", "/ a", "/a ", "/a b", " /a",
            "/a\n", "/@", "/a@s", "/.", "/a/..", "\\a", "/\u00e4", "/a/b/c/d/e/f/g", "/a/b/c/d/e/f/")


class PathsTest(unittest.TestCase):
    def test_paths(self):
        self.assertEqual(names_of("/"), [])
        self.assertEqual(names_of("/a"), ["a"])
        self.assertEqual(names_of("/zzzz"), ["zzzz"])
        self.assertEqual(names_of("/a/bc/a"), ["a", "bc", "a"])
        self.assertEqual(names_of("/a/b/c/d/e/f"), ["a", "b", "c", "d", "e", "f"])
        self.assertEqual(names_of("/aaaa/bbbb/cccc/dddd/eeee/ffff"), ["aaaa", "bbbb", "cccc", "dddd", "eeee", "ffff"])
        self.assertEqual(names_of(path="/a"), ["a"])

    def test_what_is_no_path(self):
        for value in NO_PATHS:
            with self.subTest(value=value):
                self.assertEqual(refusal(names_of, value), ("BadPath", value))

    def test_the_very_value_is_told(self):
        for value in (["/"], Text("/A"), {"/": 1}):
            self.assertIs(refusal(names_of, value)[1], value)

    def test_told_lists_may_be_spoilt(self):
        names_of("/").append("x")
        names_of("/a").clear()
        self.assertEqual((names_of("/"), names_of("/a")), ([], ["a"]))


if __name__ == "__main__":
    unittest.main()
