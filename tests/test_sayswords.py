import unittest

from bornroots.sayswords import number_told, words_of

from refusals import Text, refusal
from says import NO_NUMBERS


class WordsTest(unittest.TestCase):
    def test_words(self):
        for line, words in (("a", ["a"]), ("write a /f 0 5 6", ["write", "a", "/f", "0", "5", "6"]),
                            ("a\tb c\nd", ["a\tb", "c\nd"]), ("@ a@s", ["@", "a@s"]),
                            ("\u00a0 \u3000", ["\u00a0", "\u3000"])):
            told = words_of(line)
            self.assertEqual((told, type(told)), (words, list))
            told.clear()
            self.assertEqual(words_of(line), words)

    def test_empty_words(self):
        for line in ("", " ", "  ", " a", "a ", "a  b", "a b  c", "a b ", " a b", "a   b"):
            self.assertEqual(refusal(words_of, line), ("BadLine", line))

    def test_the_very_line_is_told(self):
        line = Text("a ")
        self.assertIs(refusal(words_of, line)[1], line)
        line = Text("write a /f 05")
        self.assertIs(refusal(number_told, "05", line)[1], line)


class NumberTest(unittest.TestCase):
    def test_numbers(self):
        for number in (0, 1, 9, 10, 100, 99999, 100000, 999999):
            told = number_told(str(number), "line")
            self.assertEqual((told, type(told)), (number, int))

    def test_words_that_are_none(self):
        for word in (*NO_NUMBERS, "", " ", " 1", "1 ", "1000003", "10000000000", "-0", "+0", "0 0"):
            self.assertEqual(refusal(number_told, word, "the line"), ("BadLine", "the line"), word)


if __name__ == "__main__":
    unittest.main()
