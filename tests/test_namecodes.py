import itertools
import string
import unittest

from bornroots.namecodes import is_name, is_name_number, name_number, name_of, need_name, root_text, root_words

from refusals import Text, refusal

NO_NAMES = (None, 5, 0, True, 1.5, b"a", [], ["a"], ("a",), {}, {"a": 1}, "", "abcde", "A", "aB", "a1", "1", "a ",
            " a", " ", "a b", "a@", "@", "a/b", "a\n", "\n", "\u00e4", "\u0430", "`", "{")


class NamecodesTest(unittest.TestCase):
    def test_names(self):
        for name in ("a", "z", "ab", "az", "zzz", "aaaa", "zzzz"):
            self.assertIs(is_name(name), True)
            self.assertIsNone(need_name(name))

    def test_what_is_no_name(self):
        for value in NO_NAMES:
            with self.subTest(value=value):
                self.assertIs(is_name(value), False)
                self.assertEqual(refusal(need_name, value), ("BadName", value))

    def test_the_very_value_is_told(self):
        for value in (["a"], Text("A"), {"a": 1}):
            for call in (need_name, root_words):
                self.assertIs(refusal(call, value)[1], value)

    def test_numbers(self):
        self.assertEqual(name_number("a"), 1)
        self.assertEqual(name_number("z"), 26)
        self.assertEqual(name_number("aa"), 28)
        self.assertEqual(name_number("ab"), 29)
        self.assertEqual(name_number("ba"), 55)
        self.assertEqual(name_number("aaaa"), 20440)
        self.assertEqual(name_number("zzzz"), 531440)
        self.assertEqual(name_of(29), "ab")
        self.assertEqual(name_of(531440), "zzzz")

    def test_there_and_back(self):
        numbers = set()
        for many in (1, 2, 3):
            for letters in itertools.product(string.ascii_lowercase, repeat=many):
                name = "".join(letters)
                numbers.add(name_number(name))
                self.assertEqual(name_of(name_number(name)), name)
        self.assertEqual(len(numbers), 26 + 26 ** 2 + 26 ** 3)
        for letters in itertools.product("amz", repeat=4):
            self.assertEqual(name_of(name_number("".join(letters))), "".join(letters))

    def test_numbers_that_some_name_has(self):
        names = {name_number("".join(letters)) for many in (1, 2)
                 for letters in itertools.product(string.ascii_lowercase, repeat=many)}
        self.assertEqual([number for number in range(27 * 27 + 27) if is_name_number(number)], sorted(names))
        for number, told in ((20440, True), (531440, True), (531441, False), (551881, False), (1000002, False)):
            self.assertIs(is_name_number(number), told)

    def test_root_words(self):
        self.assertEqual(root_words("a"), ("a", None))
        self.assertEqual(root_words("abcd"), ("abcd", None))
        self.assertEqual(root_words("a@s"), ("a", "s"))
        self.assertEqual(root_words("abcd@zzzz"), ("abcd", "zzzz"))

    def test_what_is_no_roots_text(self):
        values = [value for value in NO_NAMES]
        values += ["@s", "a@", "a@@s", "a@s@", "@a@s", "a@s@t", "A@s", "a@S", "abcde@s", "a@abcde", "a @s", "a@ s",
                   "a@s ", "@@"]
        for value in values:
            with self.subTest(value=value):
                self.assertEqual(refusal(root_words, value), ("BadName", value))

    def test_root_text(self):
        self.assertEqual(root_text("a", None), "a")
        self.assertEqual(root_text("a", "s"), "a@s")
        for text in ("a", "ab@cd"):
            self.assertEqual(root_text(*root_words(text)), text)


if __name__ == "__main__":
    unittest.main()
