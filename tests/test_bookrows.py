import unittest

from bornroots.bookrows import book_numbers, book_of, need_fitting, pages_of
from bornroots.roots import Book

from books import TOLD, book_with, clone_book, example_book, seen
from refusals import refusal


def book_of_many(many):
    """A book of just so many numbers, 13 or more of an odd number, 16 of an even one."""
    if many % 2 == 1:
        volumes, rest = [], many - 3 - 10
    else:
        volumes, rest = [("a", 0, 1)], many - 3 - 3 - 10
    dead = tuple((41 + i, i) for i in range(rest // 2))
    return book_with(2, volumes, [(1, 1, None, 0, 0, (0, 0), (0, 0), dead)])


class NumbersTest(unittest.TestCase):
    def test_the_example_there_and_back(self):
        book = example_book()
        self.assertEqual(book_numbers(book), TOLD)
        self.assertIsInstance(book_numbers(book), tuple)
        self.assertEqual(seen(book_of(TOLD)), seen(book))
        self.assertEqual(pages_of(TOLD), [TOLD])
        self.assertEqual(len(TOLD), 34)

    def test_an_empty_book(self):
        self.assertEqual(book_numbers(Book()), (1, 0, 0))
        self.assertEqual(seen(book_of((1, 0, 0))), seen(Book()))
        self.assertEqual(pages_of((1, 0, 0)), [(1, 0, 0)])
        self.assertIsNone(need_fitting(Book()))

    def test_volumes_by_heads_and_roots_by_ident(self):
        book = clone_book()
        numbers = book_numbers(book)
        self.assertEqual(numbers[:3], (12, 4, 7))
        self.assertEqual(numbers[3:15], (1, 0, 1, 2, 1000, 5, 84, 4, 7, 4, 12, 10))
        self.assertEqual(numbers[15:29], (1, 1, 0, 2, 0, 0, 0, 60, 11, 2, 50, 3, 51, 3))
        self.assertEqual(numbers[29:41], (2, 1, 19, 6, 9, 7, 9, 60, 5, 1, 44, 2))
        self.assertEqual(numbers[41:51], (5, 5, 0, 8, 0, 0, 0, 0, 0, 0))
        self.assertEqual(numbers[51:61], (6, 1, 20, 0, 4, 7, 4, 50, 3, 0))
        self.assertEqual(numbers[61:71], (7, 7, 0, 6, 0, 0, 0, 50, 3, 0))
        self.assertEqual(numbers[71:81], (8, 5, 21, 6, 7, 999, 1000002, 70, 6, 0))
        self.assertEqual(numbers[81:], (10, 10, 0, 0, 0, 0, 0, 80, 10, 0))

    def test_there_and_back(self):
        for book in (Book(), example_book(), clone_book(), book_of_many(16), book_of_many(75)):
            before = seen(book)
            back = book_of(book_numbers(book))
            self.assertIsInstance(back, Book)
            self.assertEqual(seen(back), before)
            self.assertEqual(seen(book), before)
            self.assertEqual(book_numbers(back), book_numbers(book))

    def test_fields_of_a_told_book_are_tuples(self):
        root = book_of(list(TOLD)).roots[1]
        self.assertEqual(root.dead, ((47, 3), (48, 3), (49, 3), (50, 3)))
        self.assertEqual((root.mark, root.top, root.snap), ((0, 0), (52, 5), None))

    def test_later_changes_of_the_numbers_have_no_effect(self):
        numbers = list(TOLD)
        book = book_of(numbers)
        numbers.clear()
        self.assertEqual(seen(book), seen(example_book()))


class PagesTest(unittest.TestCase):
    def test_pages_of_60(self):
        for many in (1, 59, 60, 61, 119, 120, 121, 600):
            numbers = tuple(range(many))
            pages = pages_of(numbers)
            self.assertEqual(len(pages), (many + 59) // 60)
            for page in pages[:-1]:
                self.assertEqual(len(page), 60)
            self.assertTrue(1 <= len(pages[-1]) <= 60)
            self.assertEqual(sum(pages, ()), numbers)

    def test_pages_of_books(self):
        for many, told in ((60, [60]), (61, [60, 1]), (120, [60, 60]), (121, [60, 60, 1])):
            numbers = book_numbers(book_of_many(many))
            self.assertEqual(len(numbers), many)
            self.assertEqual([len(page) for page in pages_of(numbers)], told)

    def test_told_lists_may_be_spoilt(self):
        pages_of(TOLD).clear()
        self.assertEqual(pages_of(TOLD), [TOLD])

    def test_need_fitting(self):
        for many in (16, 599, 600):
            self.assertIsNone(need_fitting(book_of_many(many)))
        for many in (601, 602, 660, 2001):
            self.assertEqual(refusal(need_fitting, book_of_many(many)), ("BookFull", many))


if __name__ == "__main__":
    unittest.main()
