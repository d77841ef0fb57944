import unittest

from bornroots import layout
from bornroots.layout import head_place, is_tree_place, log_place, next_area, page_place, tree_places


class LayoutTest(unittest.TestCase):
    def test_constants(self):
        told = (layout.AREAS, layout.PAGES, layout.LOGS, layout.FIRST_LOG, layout.FIRST_TREE)
        self.assertEqual(told, (3, 10, 8, 33, 41))

    def test_heads_and_pages(self):
        self.assertEqual([head_place(area) for area in range(3)], [0, 11, 22])
        for area in range(3):
            pages = [page_place(area, i) for i in range(1, 11)]
            self.assertEqual(pages, list(range(11 * area + 1, 11 * area + 11)))

    def test_all_named_places_are_different(self):
        places = [head_place(area) for area in range(3)]
        places += [page_place(area, i) for area in range(3) for i in range(1, 11)]
        places += [log_place(i) for i in range(8)]
        places += tree_places(8)
        self.assertEqual(sorted(places), list(range(49)))

    def test_logs(self):
        self.assertEqual([log_place(i) for i in range(8)], list(range(33, 41)))

    def test_areas_follow(self):
        self.assertEqual([next_area(area) for area in range(3)], [1, 2, 0])

    def test_tree_places(self):
        self.assertEqual(tree_places(8), [41, 42, 43, 44, 45, 46, 47, 48])
        self.assertEqual(tree_places(400), list(range(41, 441)))
        told = tree_places(8)
        told.clear()
        self.assertEqual(len(tree_places(8)), 8)

    def test_is_tree_place(self):
        for room in (8, 40, 400):
            for place in (-1, 0, 33, 40, 41, 42, 40 + room, 41 + room, 1000):
                self.assertIs(is_tree_place(place, room), 41 <= place <= 40 + room)


if __name__ == "__main__":
    unittest.main()
