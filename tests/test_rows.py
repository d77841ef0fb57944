import unittest

from bornroots import rows
from bornroots.rows import check_of, fits, half_of, is_good, made_row, payload_of

M = 1000003


class RowsTest(unittest.TestCase):
    def test_constants(self):
        self.assertEqual(rows.MODULUS, M)
        self.assertEqual((rows.HEAD, rows.PAGE, rows.LOG, rows.BRANCH, rows.LEAF), (1, 2, 3, 4, 5))

    def test_the_example(self):
        row = made_row(5, 41, 2, ())
        self.assertEqual(row, (5, 41, 2, 0, 93))
        self.assertEqual(half_of(row), (5, 41))
        self.assertIs(is_good(row), True)
        self.assertIs(is_good(half_of(row)), False)

    def test_check_of_counts_from_one_modulo(self):
        self.assertEqual(check_of(()), 0)
        self.assertEqual(check_of((7,)), 7)
        self.assertEqual(check_of([1, 2, 3]), 14)
        self.assertEqual(check_of((M - 1, M - 1)), M - 3)
        self.assertEqual(check_of((0, 0, M - 1, 1)), 1)

    def test_made_of_tuples_and_lists_of_0_to_60_numbers(self):
        for many in (0, 1, 2, 59, 60):
            for number in (0, 1, M - 1):
                payload = [number] * many
                row = made_row(2, 12, number, payload)
                self.assertIsInstance(row, tuple)
                self.assertEqual(row, made_row(2, 12, number, tuple(payload)))
                self.assertEqual(row[:-1], (2, 12, number, many, *payload))
                self.assertEqual(row[-1], sum((i + 1) * n for i, n in enumerate(row[:-1])) % M)
                self.assertIs(is_good(row), True)
                self.assertEqual(payload_of(row), tuple(payload))
                self.assertEqual(payload, [number] * many)

    def test_any_one_number_changed_is_not_good(self):
        for row in (made_row(5, 41, 2, ()), made_row(3, 33, 4, (0, M - 1, 7, 7)), made_row(2, 12, 9, range(60))):
            for at in range(len(row)):
                for by in (1, 2, 500000, M - 1):
                    bad = (*row[:at], (row[at] + by) % M, *row[at + 1:])
                    self.assertIs(is_good(bad), False, (row, at, by))

    def test_any_two_unlike_numbers_exchanged_is_not_good(self):
        for row in (made_row(5, 41, 2, ()), made_row(3, 33, 4, (0, M - 1, 7, 7)), made_row(2, 12, 9, range(60))):
            for one in range(len(row)):
                for other in range(one):
                    bad = list(row)
                    bad[one], bad[other] = bad[other], bad[one]
                    self.assertIs(is_good(tuple(bad)), row[one] == row[other], (row, one, other))

    def test_first_parts_are_not_good(self):
        for row in (made_row(1, 0, 0, ()), made_row(3, 33, 4, (0, 0, 0)), made_row(2, 12, 9, range(60))):
            for many in range(len(row)):
                self.assertIs(is_good(row[:many]), False)
        self.assertIs(is_good(()), False)
        self.assertIs(is_good((0, 0, 0, 0)), False)

    def test_one_number_more_is_not_good(self):
        row = made_row(4, 41, 2, (1, 2))
        self.assertIs(is_good((*row, 0)), False)
        ahead = (4, 41, 2, 3, 1, 2)
        self.assertIs(is_good((*ahead, check_of(ahead))), False)

    def test_fits(self):
        row = made_row(5, 41, 2, (9,))
        self.assertIs(fits(row, 5, 41, 2), True)
        self.assertIs(fits(row, 5, 41), True)
        self.assertIs(fits(row, 5, 41, None), True)
        self.assertIs(fits(row, 4, 41, 2), False)
        self.assertIs(fits(row, 5, 42, 2), False)
        self.assertIs(fits(row, 5, 41, 3), False)
        self.assertIs(fits(row, 5, 41, 0), False)
        self.assertIs(fits(row, 4, 41), False)
        self.assertIs(fits(row, 5, 42), False)
        self.assertIs(fits(made_row(1, 0, 0, ()), 1, 0, 0), True)
        self.assertIs(fits(made_row(1, 0, 3, ()), 1, 0, number=0), False)

    def test_what_is_not_good_fits_nowhere(self):
        row = made_row(5, 41, 2, (9,))
        for bad in ((), half_of(row), (5, 41, 2), row[:-1], (*row[:-1], row[-1] + 1)):
            self.assertIs(fits(bad, 5, 41, 2), False)
            self.assertIs(fits(bad, 5, 41), False)

    def test_half_of(self):
        self.assertEqual(half_of(()), ())
        self.assertEqual(half_of((7,)), ())
        self.assertEqual(half_of((7, 8)), (7,))
        self.assertEqual(half_of((1, 2, 3, 4, 5)), (1, 2))
        self.assertEqual(half_of((1, 2, 3, 4, 5, 6)), (1, 2, 3))


if __name__ == "__main__":
    unittest.main()
