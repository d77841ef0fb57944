import unittest

from bornroots.roots import (Book, Root, Volume, chain_of, children_of, edge_of, origin_of, root_named, snap_named,
                             text_of, volume_named)

from books import clone_book, example_book, idents, seen
from refusals import Text, refusal


class FieldsTest(unittest.TestCase):
    def test_root(self):
        root = Root(2, 1, "s", 0, 4, (7, 4), (50, 3), ((41, 2), (42, 2)))
        told = (root.ident, root.volume, root.snap, root.prev, root.time, root.mark, root.top, root.dead)
        self.assertEqual(told, (2, 1, "s", 0, 4, (7, 4), (50, 3), ((41, 2), (42, 2))))
        named = Root(dead=(), top=(0, 0), mark=(0, 0), time=0, prev=0, snap=None, volume=1, ident=1)
        self.assertEqual((named.ident, named.snap, named.top, named.dead), (1, None, (0, 0), ()))

    def test_volume(self):
        volume = Volume("a", 5, 1)
        self.assertEqual((volume.name, volume.quota, volume.head), ("a", 5, 1))
        self.assertEqual(Volume(head=2, quota=0, name="b").head, 2)

    def test_book(self):
        book = Book()
        self.assertEqual((book.next_id, book.volumes, book.roots), (1, {}, {}))
        self.assertIsNot(book.volumes, Book().volumes)
        self.assertIsNot(book.roots, Book().roots)

    def test_equal_only_to_themselves(self):
        self.assertNotEqual(Volume("a", 5, 1), Volume("a", 5, 1))
        self.assertNotEqual(Book(), Book())
        self.assertNotEqual(Root(1, 1, None, 0, 0, (0, 0), (0, 0), ()), Root(1, 1, None, 0, 0, (0, 0), (0, 0), ()))

    def test_twin(self):
        book = clone_book()
        before = seen(book)
        twin = book.twin()
        self.assertIsInstance(twin, Book)
        self.assertEqual(seen(twin), before)
        for ident in book.roots:
            self.assertIs(twin.roots[ident], book.roots[ident])
        for head in book.volumes:
            self.assertIs(twin.volumes[head], book.volumes[head])
        twin.next_id = 99
        twin.volumes.clear()
        twin.roots.clear()
        self.assertEqual(seen(book), before)


class NamedTest(unittest.TestCase):
    def setUp(self):
        self.book = clone_book()

    def test_volume_named(self):
        for name, head in (("a", 1), ("b", 5), ("cc", 7), ("d", 10)):
            self.assertIs(volume_named(self.book, name), self.book.volumes[head])
        for name in ("c", "s", "zzzz"):
            self.assertEqual(refusal(volume_named, self.book, name), ("NoVolume", name))
        for name in ("", "A", "abcde", "a@s", None, 7, ["a"]):
            self.assertEqual(refusal(volume_named, self.book, name), ("BadName", name))
        self.assertEqual(refusal(volume_named, Book(), "a"), ("NoVolume", "a"))

    def test_root_named(self):
        for text, ident in (("a", 1), ("a@s", 2), ("a@t", 6), ("b", 5), ("b@u", 8), ("cc", 7), ("d", 10)):
            self.assertIs(root_named(self.book, text), self.book.roots[ident])
            self.assertEqual(text_of(self.book, self.book.roots[ident]), text)

    def test_root_named_is_refused(self):
        for call in (root_named, snap_named):
            for text in ("", "A@s", "a@", "@s", "a@s@t", "a@abcde", None, 5, ["a"]):
                self.assertEqual(refusal(call, self.book, text), ("BadName", text))
            text = Text("a@S")
            self.assertIs(refusal(call, self.book, text)[1], text)
            for text in ("x", "x@s"):
                self.assertEqual(refusal(call, self.book, text), ("NoVolume", "x"))
            for text in ("a@u", "b@s", "b@t", "d@s"):
                self.assertEqual(refusal(call, self.book, text), ("NoRoot", text))
            self.assertEqual(refusal(call, Book(), "a@s"), ("NoVolume", "a"))

    def test_snap_named(self):
        for text, ident in (("a@s", 2), ("a@t", 6), ("b@u", 8)):
            self.assertIs(snap_named(self.book, text), self.book.roots[ident])
        for text in ("a", "b", "cc", "d"):
            self.assertEqual(refusal(snap_named, self.book, text), ("NoSnap", text))


class ChainsTest(unittest.TestCase):
    def setUp(self):
        self.book = clone_book()

    def test_chains_by_time_with_the_head_last(self):
        for head, told in ((1, [6, 2, 1]), (5, [8, 5]), (7, [7]), (10, [10])):
            self.assertEqual(idents(chain_of(self.book, self.book.volumes[head])), told)

    def test_origins(self):
        self.assertIsNone(origin_of(self.book, self.book.volumes[1]))
        self.assertIsNone(origin_of(self.book, self.book.volumes[10]))
        self.assertIs(origin_of(self.book, self.book.volumes[5]), self.book.roots[6])
        self.assertIs(origin_of(self.book, self.book.volumes[7]), self.book.roots[6])

    def test_children_by_ident(self):
        for ident, told in ((6, [2, 7, 8]), (2, [1]), (8, [5]), (1, []), (5, []), (7, []), (10, [])):
            self.assertEqual(idents(children_of(self.book, self.book.roots[ident])), told)

    def test_edges(self):
        for ident, edge in ((6, 0), (2, 4), (1, 9), (8, 4), (5, 7), (7, 4), (10, 0)):
            self.assertEqual(edge_of(self.book, self.book.roots[ident]), edge)

    def test_told_lists_may_be_spoilt(self):
        chain_of(self.book, self.book.volumes[1]).clear()
        children_of(self.book, self.book.roots[6]).clear()
        self.assertEqual(idents(chain_of(self.book, self.book.volumes[1])), [6, 2, 1])
        self.assertEqual(idents(children_of(self.book, self.book.roots[6])), [2, 7, 8])

    def test_questions_change_nothing(self):
        before = seen(self.book)
        self.test_chains_by_time_with_the_head_last()
        self.test_origins()
        self.test_children_by_ident()
        self.assertEqual(seen(self.book), before)

    def test_the_example(self):
        book = example_book()
        self.assertEqual(idents(chain_of(book, book.volumes[1])), [2, 1])
        self.assertEqual([text_of(book, book.roots[ident]) for ident in (1, 2)], ["a", "a@s"])
        self.assertEqual(edge_of(book, book.roots[1]), 4)


if __name__ == "__main__":
    unittest.main()
