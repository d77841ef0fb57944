import unittest

from bornroots.keys import block_of, key_of, node_of, stretch_of

from refusals import refusal


class KeysTest(unittest.TestCase):
    def test_block_of(self):
        for key in range(512):
            told = [block_of(level, key) for level in range(4)]
            self.assertEqual(told, [0, key // 64, key // 8, key])

    def test_stretch_of(self):
        self.assertEqual(stretch_of(0, 0), (0, 511))
        for m in range(8):
            self.assertEqual(stretch_of(1, m), (64 * m, 64 * m + 63))
        for n in range(64):
            self.assertEqual(stretch_of(2, n), (8 * n, 8 * n + 7))
        for k in range(512):
            self.assertEqual(stretch_of(3, k), (k, k))

    def test_each_key_is_in_the_stretch_of_its_block(self):
        for key in range(512):
            for level in range(4):
                lo, hi = stretch_of(level, block_of(level, key))
                self.assertTrue(lo <= key <= hi)

    def test_nodes_and_places(self):
        for node in range(64):
            for place in range(8):
                self.assertEqual(key_of(node, place), 8 * node + place)
                self.assertEqual(node_of(8 * node + place), node)

    def test_bounds(self):
        for level in (-1, 4, 1000):
            self.assertEqual(refusal(block_of, level, 999), ("BadNumber", level))
            self.assertEqual(refusal(stretch_of, level, 999), ("BadNumber", level))
        for key in (-1, 512, 1000002):
            self.assertEqual(refusal(node_of, key), ("BadNumber", key))
            for level in range(4):
                self.assertEqual(refusal(block_of, level, key), ("BadNumber", key))
        for level, many in ((0, 1), (1, 8), (2, 64), (3, 512)):
            for number in (-1, many, many + 1):
                self.assertEqual(refusal(stretch_of, level, number), ("BadNumber", number))
        for node in (-1, 64, 512):
            self.assertEqual(refusal(key_of, node, 9), ("BadNumber", node))
        for place in (-1, 8, 100):
            self.assertEqual(refusal(key_of, 63, place), ("BadNumber", place))


if __name__ == "__main__":
    unittest.main()
