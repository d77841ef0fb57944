import unittest

from bornroots.bookrows import book_numbers
from bornroots.drives import Drives
from bornroots.faults import rot
from bornroots.headrows import book_found, head_row, head_told, page_rows
from bornroots.roots import Book
from bornroots.rows import half_of, made_row

from books import TOLD, example_book


def drives_with(many, area, number, numbers):
    """Drives that show the pages of these numbers, and those rows."""
    drives = Drives(many, 8)
    rows = page_rows(area, number, numbers)
    for place, row in rows:
        for drive in range(many):
            drives.lay(drive, place, row)
    return drives, rows


class RowsTest(unittest.TestCase):
    def test_pages(self):
        for area in range(3):
            for many in (1, 59, 60, 61, 120, 600):
                numbers = tuple(range(7, 7 + many))
                rows = page_rows(area, 9, numbers)
                self.assertIsInstance(rows, list)
                self.assertEqual([place for place, _ in rows], [11 * area + i for i in range(1, (many + 59) // 60 + 1)])
                for i, (place, row) in enumerate(rows):
                    self.assertEqual(row, made_row(2, place, 9, numbers[60 * i:60 * i + 60]))

    def test_pages_of_books(self):
        self.assertEqual(page_rows(0, 1, book_numbers(Book())), [(1, made_row(2, 1, 1, (1, 0, 0)))])
        self.assertEqual(page_rows(1, 5, book_numbers(example_book())), [(12, made_row(2, 12, 5, TOLD))])

    def test_heads(self):
        for area in range(3):
            place, row = head_row(area, 8, 7, 2, 40, 6, 3)
            self.assertEqual(place, 11 * area)
            self.assertEqual(row, made_row(1, 11 * area, 8, (7, 2, 40, 6, 3)))
            self.assertEqual(head_told(row), (7, 2, 40, 6, 3))
        self.assertEqual(head_row(0, 1, 0, 1, 8, 0, 1), (0, made_row(1, 0, 1, (0, 1, 8, 0, 1))))


class FoundTest(unittest.TestCase):
    def test_there_and_back(self):
        for area in range(3):
            for many in (1, 59, 60, 61, 600):
                numbers = tuple(range(many))
                drives, rows = drives_with(1, area, 9, numbers)
                self.assertEqual(book_found(drives, area, 9, len(rows)), numbers)

    def test_more_pages_than_there_are(self):
        for area in range(3):
            drives, _ = drives_with(2, area, 9, tuple(range(120)))
            self.assertIsNone(book_found(drives, area, 9, 3))
            self.assertIsNone(book_found(drives, area, 9, 11))
            full, _ = drives_with(2, area, 9, tuple(range(600)))
            full.lay(0, 11 * area + 11, made_row(2, 11 * area + 11, 9, (1,)))
            for pages in (11, 12, 60, 1000002):
                self.assertIsNone(book_found(full, area, 9, pages))

    def test_fewer_pages_than_there_are(self):
        drives, _ = drives_with(1, 1, 9, tuple(range(120)))
        self.assertEqual(book_found(drives, 1, 9, 1), tuple(range(60)))

    def test_another_number_or_area(self):
        drives, _ = drives_with(1, 1, 9, TOLD)
        self.assertIsNone(book_found(drives, 1, 8, 1))
        self.assertIsNone(book_found(drives, 0, 9, 1))

    def test_pages_on_different_drives(self):
        numbers = tuple(range(170))
        drives, rows = drives_with(3, 2, 9, numbers)
        for i, (place, row) in enumerate(rows):
            for drive in range(3):
                if drive != 2 - i:
                    drives.lay(drive, place, half_of(row))
        self.assertEqual(book_found(drives, 2, 9, 3), numbers)
        drives.turn(0, False)
        drives.turn(2, False)
        self.assertEqual(book_found(drives, 2, 9, 3), numbers)
        drives.blank(1)
        self.assertIsNone(book_found(drives, 2, 9, 3))

    def test_from_the_least_drive_on_which_it_fits(self):
        drives = Drives(3, 8)
        for drive, number in ((0, 5), (1, 4), (2, 4)):
            drives.lay(drive, 1, made_row(2, 1, number, (drive,)))
        self.assertEqual(book_found(drives, 0, 4, 1), (1,))
        self.assertEqual(book_found(drives, 0, 5, 1), (0,))

    def test_torn_and_rotted_pages(self):
        numbers = tuple(range(61))
        for at in (0, 1):
            drives, rows = drives_with(2, 0, 9, numbers)
            place, row = rows[at]
            rot(drives, 0, place, 5, 1)
            self.assertEqual(book_found(drives, 0, 9, 2), numbers)
            drives.lay(1, place, half_of(row))
            self.assertIsNone(book_found(drives, 0, 9, 2))

    def test_another_kind_or_place(self):
        drives = Drives(1, 8)
        drives.lay(0, 1, made_row(3, 1, 9, TOLD))
        self.assertIsNone(book_found(drives, 0, 9, 1))
        drives.lay(0, 1, made_row(2, 2, 9, TOLD))
        self.assertIsNone(book_found(drives, 0, 9, 1))


if __name__ == "__main__":
    unittest.main()
