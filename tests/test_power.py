import unittest

from bornroots.power import digit_of, left_by


class PowerTest(unittest.TestCase):
    def test_digits(self):
        self.assertEqual([digit_of(2, j) for j in range(4)], [2, 0, 0, 0])
        self.assertEqual([digit_of(0, j) for j in range(3)], [0, 0, 0])
        self.assertEqual([digit_of(1 + 2 * 3 + 0 * 9 + 1 * 27, j) for j in range(6)], [1, 2, 0, 1, 0, 0])
        for mask in range(100):
            for j in range(8):
                self.assertEqual(digit_of(mask, j), mask // 3 ** j % 3)

    def test_masks_and_places_of_any_size(self):
        mask = 2 * 3 ** 5000 + 3 ** 4000
        self.assertEqual(digit_of(mask, 5000), 2)
        self.assertEqual(digit_of(mask, 4000), 1)
        self.assertEqual(digit_of(mask, 4999), 0)
        self.assertEqual(digit_of(mask, 5001), 0)
        self.assertEqual(digit_of(mask, 10 ** 9), 0)
        self.assertEqual(digit_of(0, 10 ** 9), 0)

    def test_left_by(self):
        self.assertEqual(left_by((1, 2, 3, 4, 5), (9, 8), 0), (1, 2, 3, 4, 5))
        self.assertEqual(left_by((1, 2, 3, 4, 5), (9, 8), 1), (9, 8))
        self.assertEqual(left_by((1, 2, 3, 4, 5), (9, 8), 2), (1, 2))
        self.assertEqual(left_by((), (9, 8), 0), ())
        self.assertEqual(left_by((), (9, 8), 2), ())


if __name__ == "__main__":
    unittest.main()
