import unittest

from bornroots.roots import Book
from bornroots.space import Standing, free_places, parted, reached, used_by, written_pairs
from bornroots.treeplan import Tree

from books import book_with, seen
from pools import example_pool, new_pool, put_snapshot, put_volume

WRITTEN = [(42, 5), (43, 5), (44, 5), (51, 5), (52, 5)]
OF_SNAP = [(41, 2), (45, 3), (46, 3), (47, 3), (48, 3), (49, 3), (50, 3)]


def flat(number, pairs):
    """A Tree whose pairs are these; which block each is does not matter here."""
    return Tree({(3, at): pair for at, pair in enumerate(pairs)}, {})


class StandingTest(unittest.TestCase):
    def test_fields(self):
        book, tree = book_with(2, [("a", 3, 1)], [(1, 1, None, 0, 0, (0, 0), (44, 2), ())]), flat(2, [(44, 2)])
        standing = Standing(2, 1, 1, book, {1: tree}, {44: 2})
        self.assertEqual((standing.number, standing.area, standing.ahead), (2, 1, 1))
        self.assertEqual((seen(standing.book), standing.trees, standing.used), (seen(book), {1: tree}, {44: 2}))

    def test_what_is_handed_in_is_copied(self):
        book, trees, used = Book(), {}, {44: 2}
        standing = Standing(2, 1, 1, book, trees, used)
        trees[1] = flat(2, [])
        used.clear()
        self.assertEqual((standing.trees, standing.used), ({}, {44: 2}))


class CellsTest(unittest.TestCase):
    def test_reached(self):
        pool = example_pool(written=True)
        self.assertEqual(reached(pool.root), [41, 42, 43, 44, 45, 46, 47, 48, 49, 50, 51, 52])
        self.assertEqual(reached(pool.elder), [41, 45, 46, 47, 48, 49, 50])
        self.assertEqual(reached(new_pool().root), [])

    def test_reached_goes_by_the_trees(self):
        trees = {1: flat(5, [(60, 2), (44, 5)]), 9: flat(5, [(44, 5), (43, 4)]), 3: Tree({}, {})}
        self.assertEqual(reached(Standing(5, 0, 4, Book(), trees, {})), [43, 44, 60])

    def test_free_places(self):
        pool = example_pool()
        self.assertEqual(free_places(40, pool.root, pool.elder), list(range(51, 81)))
        self.assertEqual(free_places(40, pool.root, None), [42, 43, 44, *range(51, 81)])
        self.assertEqual(free_places(8, pool.root, pool.elder), [])
        self.assertEqual(free_places(11, pool.root, pool.elder), [51])
        self.assertEqual(free_places(8, new_pool().root, None), list(range(41, 49)))

    def test_free_places_go_by_what_is_used(self):
        root = Standing(5, 0, 4, Book(), {1: flat(5, [(44, 2)])}, {41: 5, 48: 1})
        elder = Standing(4, 2, 3, Book(), {}, {42: 3, 41: 2})
        self.assertEqual(free_places(8, root, elder), [43, 44, 45, 46, 47])
        self.assertEqual(free_places(8, root, None), [42, 43, 44, 45, 46, 47])


class PairsTest(unittest.TestCase):
    def test_written_pairs(self):
        standing = example_pool(written=True).root
        self.assertEqual(written_pairs(standing, standing.book.roots[1]), WRITTEN)
        self.assertEqual(written_pairs(standing, standing.book.roots[2]), OF_SNAP)

    def test_the_edge_itself_is_not_written(self):
        book = book_with(3, [("a", 0, 1)], [(1, 1, None, 2, 0, (0, 0), (50, 6), ()),
                                            (2, 1, "s", 0, 5, (7, 5), (50, 5), ())])
        trees = {1: flat(6, [(50, 6), (43, 5), (42, 4), (41, 6)]), 2: flat(5, [(43, 5), (42, 1)])}
        standing = Standing(6, 0, 5, book, trees, {})
        self.assertEqual(written_pairs(standing, book.roots[1]), [(41, 6), (50, 6)])
        self.assertEqual(written_pairs(standing, book.roots[2]), [(42, 1), (43, 5)])

    def test_used_by(self):
        pool = example_pool(written=True)
        self.assertEqual(used_by(pool.root, pool.root.book.volumes[1]), 12)
        self.assertEqual(used_by(pool.elder, pool.elder.book.volumes[1]), 7)
        head = put_volume(pool, "b")
        self.assertEqual(used_by(pool.root, pool.root.book.volumes[head]), 4)
        put_snapshot(pool, "b", "s")
        put_snapshot(pool, "b", "t")
        self.assertEqual(used_by(pool.root, pool.root.book.volumes[head]), 4)
        self.assertEqual(used_by(pool.root, pool.root.book.volumes[1]), 12)

    def test_parted(self):
        pairs = [(50, 3), (41, 5), (42, 4), (40, 6), (60, 3), (50, 3)]
        self.assertEqual(parted(pairs, 4), ([(50, 3), (42, 4), (60, 3), (50, 3)], [(41, 5), (40, 6)]))
        self.assertEqual(parted(pairs, 0), ([], pairs))
        self.assertEqual(parted(tuple(pairs), 6), (pairs, []))
        self.assertEqual(parted([], 3), ([], []))
        self.assertIsInstance(parted([], 3), tuple)


class NewListsTest(unittest.TestCase):
    def test_results_are_lists_of_their_own(self):
        pool = example_pool(written=True)
        root, pairs = pool.root, [(41, 2), (42, 5)]
        for look in (lambda: reached(root), lambda: free_places(40, root, pool.elder),
                     lambda: written_pairs(root, root.book.roots[1]), lambda: parted(pairs, 9)[0],
                     lambda: parted(pairs, 0)[1]):
            told = look()
            self.assertIsInstance(told, list)
            kept = list(told)
            told.clear()
            self.assertEqual(look(), kept)
        self.assertEqual(pairs, [(41, 2), (42, 5)])


if __name__ == "__main__":
    unittest.main()
