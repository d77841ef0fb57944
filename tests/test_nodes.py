import unittest

from bornroots.nodes import empty_volume, free_node, head_of, keys_of_node

RECORDS = {0: (2, 0), 7: (6, 1), 8: (1, 1, 9), 9: (5,) * 8, 10: (5, 0, 0, 0, 0, 0, 0, 0), 504: (1, 1, 0), 511: (1,) * 8}


class NodesTest(unittest.TestCase):
    def test_head_of(self):
        self.assertEqual(head_of(RECORDS, 0), (2, 0))
        self.assertEqual(head_of(RECORDS, 1), (1, 1, 9))
        self.assertEqual(head_of(RECORDS, 63), (1, 1, 0))
        for node in (2, 7, 62):
            self.assertIsNone(head_of(RECORDS, node))
        self.assertIsNone(head_of({9: (5,) * 8}, 1))

    def test_keys_of_node(self):
        self.assertEqual(keys_of_node(RECORDS, 0), [0, 7])
        self.assertEqual(keys_of_node(RECORDS, 1), [8, 9, 10])
        self.assertEqual(keys_of_node(RECORDS, 2), [])
        self.assertEqual(keys_of_node(RECORDS, 63), [504, 511])
        self.assertEqual(keys_of_node({15: (1,), 9: (1,), 8: (1, 1, 0), 16: (1,)}, 1), [8, 9, 15])

    def test_free_node(self):
        self.assertEqual(free_node({}), 1)
        self.assertEqual(free_node({0: (2, 0)}), 1)
        self.assertEqual(free_node(RECORDS), 2)
        self.assertEqual(free_node({16: (1, 1, 0)}), 1)
        self.assertEqual(free_node({9: (1,)}), 1)
        full = {8 * node: (1, 1, 0) for node in range(64)}
        self.assertIsNone(free_node(full))
        for node in (1, 7, 63):
            self.assertEqual(free_node({key: full[key] for key in full if key != 8 * node}), node)
        self.assertIsNone(free_node({key: full[key] for key in full if key != 0}))

    def test_empty_volume_is_a_new_dict(self):
        told = empty_volume()
        self.assertEqual(told, {0: (2, 0)})
        told.clear()
        self.assertEqual(empty_volume(), {0: (2, 0)})

    def test_questions_change_nothing(self):
        records = dict(RECORDS)
        keys_of_node(records, 1).clear()
        free_node(records)
        self.assertEqual(records, RECORDS)


if __name__ == "__main__":
    unittest.main()
