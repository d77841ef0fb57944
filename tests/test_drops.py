import unittest
from itertools import permutations

from bornroots.bookrows import book_numbers
from bornroots.commit import commit
from bornroots.desk import make_file, write
from bornroots.drives import Drives
from bornroots.drops import drop, handed_on
from bornroots.mount import made_pool, mount
from bornroots.roomtold import room, used
from bornroots.snapshots import clone, snapshot
from bornroots.views import read
from bornroots.volumes import destroy, make_volume

from books import clone_book, seen
from pools import check_pool, contents, example_pool, filled, head_root
from rawpool import check_answers, raws_of
from rootdeeds import Case
from test_snapshots import NO_ROOTS


def chain_pool(names="stuv", room=120):
    """A pool with a volume a, a file of which is written ahead of each of its snapshots and behind the last one."""
    pool = made_pool(Drives(1, room), tag=7)
    make_volume(pool, "a")
    make_file(pool, "a", "/f")
    for at, name in enumerate(names):
        write(pool, "a", "/f", 8 * (at % 7), [at + 1])
        if at % 2 == 0:
            make_file(pool, "a", "/" + "ghijk"[at // 2])
        snapshot(pool, "a", name)
    write(pool, "a", "/f", 0, [9])
    commit(pool)
    return pool


def dropped(pool, text):
    """Drop a snapshot, and what its drop let go by walks over all trees."""
    raw = raws_of(pool)[0]
    return drop(pool, text), len(raw.freed([raw.ident(text)]))


class DropTest(Case):
    def test_the_example(self):
        pool = example_pool(written=True)
        begun = pool.drives.begun()
        self.assertEqual(drop(pool, "a@s"), 4)
        head = head_root(pool, "a")
        self.assertEqual((room(pool), head.prev, head.dead, head.ident, head.top), ((8, 4, 28), 0, (), 1, (52, 5)))
        self.assertEqual((book_numbers(pool.root.book), pool.drives.begun() - begun),
                         ((3, 1, 1, 1, 0, 1, 1, 1, 0, 0, 0, 0, 0, 52, 5, 0), 2))
        self.assertEqual((contents(pool).keys(), read(pool, "a", "/f", 0, 9), pool.root.number), ({"a"}, [5], 6))
        check_pool(self, pool)
        check_answers(self, pool)
        self.assertEqual(contents(mount(pool.drives)), contents(pool))

    def test_the_first_a_middle_and_the_last_one(self):
        for name in "stuv":
            pool = chain_pool()
            told = contents(pool)
            gone, expected = dropped(pool, "a@" + name)
            self.assertEqual(gone, expected)
            self.assertGreater(gone, 0)
            del told["a@" + name]
            self.assertEqual(contents(pool), told)
            check_answers(self, pool)
            check_pool(self, pool)

    def test_in_any_order(self):
        for names in permutations("stuv"):
            pool = chain_pool()
            begun = used(pool, "a")
            total = 0
            for name in names:
                gone, expected = dropped(pool, "a@" + name)
                self.assertEqual(gone, expected)
                check_answers(self, pool)
                total += gone
            self.assertEqual((begun - total, head_root(pool, "a").prev), (used(pool, "a"), 0))
            self.assertEqual(sorted(pool.root.used.items()), pool.root.trees[1].pairs())

    def test_of_snapshots_without_a_change_between(self):
        pool = example_pool(snap=True)
        snapshot(pool, "a", "t")
        self.assertEqual((drop(pool, "a@s"), drop(pool, "a@t")), (0, 0))
        self.assertEqual(room(pool), (7, 0, 33))
        check_answers(self, pool)

    def test_snapshots_of_a_clone(self):
        for order in (("t", "u"), ("u", "t")):
            pool = example_pool(written=True)
            clone(pool, "a@s", "b")
            for at, snap in enumerate("tu"):
                write(pool, "b", "/f", at, [at + 1])
                snapshot(pool, "b", snap)
            write(pool, "b", "/f", 5, [1])
            write(pool, "a", "/f", 5, [1])
            commit(pool)
            for snap in order:
                gone, expected = dropped(pool, "b@" + snap)
                self.assertEqual(gone, expected)
                check_answers(self, pool)
            # What the origin has is not let go: the head of the clone stands on the origin itself again.
            self.assertEqual((head_root(pool, "b").prev, read(pool, "b", "/f", 0, 9)), (2, [1, 2, 0, 0, 0, 1]))
            check_pool(self, pool)

    def test_an_origin(self):
        pool = example_pool(written=True)
        clone(pool, "a@s", "b")
        clone(pool, "a@s", "c")
        self.refused(pool, ("Cloned", "a@s"), drop, "a@s")
        destroy(pool, "b")
        self.refused(pool, ("Cloned", "a@s"), drop, "a@s")
        destroy(pool, "c")
        self.assertEqual(drop(pool, "a@s"), 4)
        check_answers(self, pool)

    def test_a_snapshot_that_holds_on_for_a_clone_of_another_one(self):
        pool = chain_pool("stu")
        clone(pool, "a@t", "b")
        for text in ("a@s", "a@u"):
            gone, expected = dropped(pool, text)
            self.assertEqual(gone, expected)
            check_answers(self, pool)
        self.refused(pool, ("Cloned", "a@t"), drop, "a@t")
        destroy(pool, "b")
        gone, expected = dropped(pool, "a@t")
        self.assertEqual((gone, head_root(pool, "a").prev), (expected, 0))
        check_answers(self, pool)

    def test_refusals_in_their_order(self):
        pool = example_pool(snap=True)
        clone(pool, "a@s", "b")
        pool.root = filled(pool.root, 600)
        for text in NO_ROOTS:
            self.refused(pool, ("BadName", text), drop, text)
        self.refused(pool, ("NoVolume", "c"), drop, "c")
        self.refused(pool, ("NoVolume", "c"), drop, "c@s")
        self.refused(pool, ("NoRoot", "a@t"), drop, "a@t")
        self.refused(pool, ("NoRoot", "b@s"), drop, "b@s")
        self.refused(pool, ("NoSnap", "a"), drop, "a")
        self.refused(pool, ("NoSnap", "b"), drop, "b")
        self.refused(pool, ("Cloned", "a@s"), drop, "a@s")
        self.off(drop, "@")
        self.off(drop, "a@s")

    def test_behind_open_deeds(self):
        pool, told = self.behind_open(drop, "a@s")
        # The open deed is committed ahead: what it replaced is let go by the drop alone.
        self.assertEqual((told, room(pool), read(pool, "a", "/f", 0, 9)), (4, (8, 4, 28), [5]))
        check_answers(self, pool)
        for expected, text in ((("NoRoot", "a@t"), "a@t"), (("NoSnap", "a"), "a"), (("BadName", ""), "")):
            self.refused_behind_open(expected, drop, text)

    def test_refused_behind_open_deeds_that_stay_open(self):
        pool = example_pool(snap=True)
        clone(pool, "a@s", "b")
        write(pool, "a", "/f", 0, [5])
        self.refused(pool, ("Cloned", "a@s"), drop, "a@s")
        self.assertEqual((len(pool.opened), read(pool, "a", "/f", 0, 1), pool.root.number), (1, [5], 5))

    def test_no_room_is_needed(self):
        pool = made_pool(Drives(1, 15))
        make_volume(pool, "a")
        make_file(pool, "a", "/f")
        snapshot(pool, "a", "s")
        commit(pool, always=True)
        write(pool, "a", "/f", 0, [1])
        commit(pool)
        commit(pool, always=True)
        self.assertEqual((room(pool), drop(pool, "a@s"), room(pool)), ((12, 0, 3), 4, (8, 4, 3)))
        check_answers(self, pool)

    def test_of_a_full_book(self):
        pool = example_pool(snap=True)
        pool.root = filled(pool.root, 600)
        self.assertEqual(drop(pool, "a@s"), 0)
        self.assertEqual(len(book_numbers(pool.root.book)), 590)

    def test_a_book_that_was_told_stays(self):
        pool = chain_pool()
        book = pool.root.book
        before = seen(book)
        drop(pool, "a@t")
        self.assertEqual(seen(book), before)


class HandedOnTest(unittest.TestCase):
    def test_by_the_edge(self):
        book = clone_book()
        before = seen(book)
        self.assertEqual(handed_on(book, book.roots[2]), ((), ((44, 2), (50, 3), (51, 3))))
        self.assertEqual(handed_on(book, book.roots[8]), ((), ()))
        self.assertEqual(seen(book), before)
        book.roots[5].dead = ((44, 4), (70, 6), (71, 5))
        book.roots[8].dead = ((43, 2), (45, 3))
        told = handed_on(book, book.roots[8])
        # The edge is 4, the time of the origin: what was born by then is the origin's.
        self.assertEqual(told, (((70, 6), (71, 5)), ((43, 2), (44, 4), (45, 3))))
        self.assertEqual({type(part) for part in told}, {tuple})

    def test_of_each_snapshot_with_one_child(self):
        pool = chain_pool()
        clone(pool, "a@t", "b")
        write(pool, "b", "/f", 3, [3])
        snapshot(pool, "b", "z")
        write(pool, "b", "/f", 4, [3])
        commit(pool)
        raw = check_answers(self, pool)
        self.assertEqual([raw.roots[ident]["text"] for ident in raw.droppable()], ["a@s", "a@u", "a@v", "b@z"])


if __name__ == "__main__":
    unittest.main()
