import unittest

from bornroots.bookrows import book_numbers
from bornroots.commit import carry, commit, do_roots
from bornroots.deedsdata import with_values
from bornroots.deedsmake import with_file
from bornroots.errors import Off, Taken
from bornroots.headrows import book_found, head_row, page_rows
from bornroots.plan import book_step, content_step
from bornroots.rows import half_of, is_good
from bornroots.space import Standing
from bornroots.treewalk import walked

from books import seen
from pools import (Told, all_seen, cells, check_pool, contents, example_pool, head_root, new_pool, open_deed, pool_seen,
                   put_quota, put_snapshot, put_volume, standing_seen)
from refusals import OFF, refusal


def same_book(pool):
    """A step that puts the book of the root once more."""
    return book_step(pool.root, pool.last, pool.root.book, pool.root.trees, [])


class CarryTest(unittest.TestCase):
    def test_the_order_of_writes_and_flushes(self):
        pool = example_pool(snap=True)
        records = with_values(pool.records_of(head_root(pool, "a")), "/f", 0, [5])
        step = content_step(pool.root, pool.elder, 4, 40, {1: records})
        told = Told(pool.drives)
        self.assertIsNone(carry(pool, step))
        page = page_rows(1, 5, book_numbers(step.standing.book))
        head = head_row(1, 5, 7, 1, 40, 4, 1)
        self.assertEqual(told.lines, [*step.rows, *page, "flush", head, "flush"])
        self.assertEqual([line[0] for line in told.lines], [42, 43, 44, 51, 52, 12, "f", 11, "f"])
        self.assertEqual(pool.drives.cell(0, 11), (1, 11, 5, 5, 7, 1, 40, 4, 1,
                                                   (1 + 22 + 15 + 20 + 35 + 6 + 280 + 32 + 9) % 1000003))

    def test_each_row_on_all_drives_that_are_on(self):
        pool = example_pool(many=3)
        pool.drives.turn(1, False)
        before = cells(pool.drives)
        step = content_step(pool.root, pool.elder, 3, 40, {1: {0: (2, 0)}})
        begun = pool.drives.begun()
        carry(pool, step)
        self.assertEqual(pool.drives.begun() - begun, 2 * (len(step.rows) + 1 + 1))
        after = cells(pool.drives)
        self.assertEqual(after[1], before[1])
        self.assertEqual(after[0], after[2])
        self.assertNotEqual(after[0], before[0])
        self.assertEqual(after[0][0], head_row(0, 4, 7, 3, 40, 3, 1)[1])

    def test_what_the_pool_is_then(self):
        pool = example_pool()
        open_deed(pool, "a", with_values, "/f", 0, [5])
        ahead, step = pool.root, same_book(pool)
        carry(pool, step)
        self.assertIs(pool.root, step.standing)
        self.assertIs(pool.elder, ahead)
        self.assertEqual((pool.last, pool.opened), (4, []))

    def test_several_pages(self):
        pool = new_pool(room=400)
        for at in range(13):
            put_volume(pool, "abcdefghijklm"[at])
        numbers = book_numbers(pool.root.book)
        self.assertEqual(len(numbers), 3 + 13 * 13)
        area = pool.root.area
        self.assertEqual(book_found(pool.drives, area, pool.root.number, 3), numbers)
        self.assertEqual(pool.drives.cell(0, 11 * area), head_row(area, 14, 7, 1, 400, 13, 3)[1])
        told = Told(pool.drives)
        carry(pool, same_book(pool))
        self.assertEqual([line[0] for line in told.lines], [23, 24, 25, "f", 22, "f"])

    def test_a_pool_that_is_off(self):
        pool = example_pool()
        step = same_book(pool)
        pool.drives.start()
        before = all_seen(pool)
        self.assertEqual(refusal(carry, pool, step), OFF)
        self.assertEqual(all_seen(pool), before)


class CommitTest(unittest.TestCase):
    def test_the_example(self):
        pool = new_pool()
        put_volume(pool, "a")
        open_deed(pool, "a", with_file, "/f")
        self.assertEqual(commit(pool), 3)
        self.assertEqual((pool.root.number, pool.elder.number, pool.last, pool.opened), (3, 2, 3, []))
        self.assertEqual(sorted(pool.root.used), [41, 45, 46, 47, 48, 49, 50])
        self.assertEqual(sorted(set(pool.elder.used) - set(pool.root.used)), [42, 43, 44])
        check_pool(self, pool)

    def test_numbers_areas_and_numbers_ahead_in_a_row(self):
        pool = new_pool()
        seen_so_far = [(pool.root.number, pool.root.area, pool.root.ahead)]
        put_volume(pool, "a")
        seen_so_far.append((pool.root.number, pool.root.area, pool.root.ahead))
        for at in range(6):
            open_deed(pool, "a", with_file, "/" + "abcdef"[at])
            self.assertEqual(commit(pool), at + 3)
            seen_so_far.append((pool.root.number, pool.root.area, pool.root.ahead))
            check_pool(self, pool)
        self.assertEqual(seen_so_far, [(n, (n - 1) % 3, n - 1) for n in range(1, 9)])
        for area, number in ((0, 7), (1, 8), (2, 6)):
            self.assertEqual(pool.drives.cell(0, 11 * area), head_row(area, number, 7, 1, 40, number - 1, 1)[1])

    def test_the_number_is_one_more_than_the_last_given_one(self):
        pool = example_pool()
        pool.last = 20
        open_deed(pool, "a", with_file, "/g")
        self.assertEqual(commit(pool), 21)
        self.assertEqual((pool.root.ahead, pool.root.area, pool.last), (3, 0, 21))
        put_snapshot(pool, "a", "s")
        snap = pool.root.book.roots[2]
        self.assertEqual((pool.root.number, snap.time, snap.mark), (22, 22, (7, 22)))

    def test_without_open_deeds(self):
        pool = example_pool(snap=True)
        before = all_seen(pool)
        self.assertEqual(commit(pool), 4)
        self.assertEqual(commit(pool, always=False), 4)
        self.assertEqual(all_seen(pool), before)

    def test_always(self):
        pool = example_pool(snap=True)
        book, trees, used, ahead = seen(pool.root.book), pool.root.trees, pool.root.used, pool.root
        told = Told(pool.drives)
        self.assertEqual(commit(pool, always=True), 5)
        self.assertEqual([line[0] for line in told.lines], [12, "f", 11, "f"])
        self.assertEqual((seen(pool.root.book), pool.root.trees, pool.root.used), (book, trees, used))
        self.assertIs(pool.elder, ahead)
        self.assertEqual(commit(pool, always=True), 6)
        check_pool(self, pool)

    def test_always_with_open_deeds_makes_no_difference(self):
        told = []
        for always in (False, True):
            pool = example_pool(snap=True)
            open_deed(pool, "a", with_values, "/f", 0, [5])
            self.assertEqual(commit(pool, always=always), 5)
            told.append(all_seen(pool))
        self.assertEqual(told[0], told[1])

    def test_deeds_that_change_no_record_are_committed_too(self):
        pool = example_pool()
        open_deed(pool, "a", lambda records: dict(records))
        told = Told(pool.drives)
        self.assertEqual(commit(pool), 4)
        self.assertEqual([line[0] for line in told.lines], [1, "f", 0, "f"])

    def test_always_by_name_alone(self):
        self.assertRaises(TypeError, commit, example_pool(), True)

    def test_off(self):
        for again in (False, True):
            for always in (False, True):
                pool = example_pool()
                open_deed(pool, "a", with_values, "/f", 0, [5])
                pool.drives.cut()
                if again:
                    pool.drives.start()
                before = all_seen(pool)
                self.assertEqual(refusal(commit, pool, always=always), OFF)
                self.assertEqual(all_seen(pool), before)


class LossTest(unittest.TestCase):
    """The power goes at each write of the commit of the example: five blocks, a page, the head."""

    def cut_at(self, count, mask, many=1):
        pool = example_pool(many, snap=True)
        open_deed(pool, "a", with_values, "/f", 0, [5])
        known, before = pool_seen(pool), cells(pool.drives)
        pool.drives.arm(count, mask)
        self.assertEqual(refusal(commit, pool), OFF)
        self.assertEqual(pool_seen(pool), known)
        self.assertEqual(refusal(commit, pool), OFF)
        return pool, before

    def whole(self):
        pool = example_pool(snap=True)
        open_deed(pool, "a", with_values, "/f", 0, [5])
        commit(pool)
        return cells(pool.drives)[0]

    def test_each_write_and_each_digit(self):
        order, whole = [42, 43, 44, 51, 52, 12, 11], self.whole()
        for count in range(1, 8):
            flushed = 0 if count < 7 else 6
            for mask, digit in ((0, 0), (3 ** 9 // 2, 1), (3 ** 9 - 1, 2)):
                pool, before = self.cut_at(count, mask)
                told = list(before[0])
                for at in range(count):
                    place = order[at]
                    told[place] = whole[place] if at < flushed or digit == 0 else told[place]
                    if at >= flushed and digit == 2:
                        told[place] = half_of(whole[place])
                self.assertEqual(cells(pool.drives)[0], told, (count, mask))

    def test_what_the_root_reaches_stays(self):
        for count in range(1, 15):
            for mask in (0, 3 ** 20 // 2, 3 ** 20 - 1, 5 * 3 ** 7):
                pool, _ = self.cut_at(count, mask, 2)
                for standing in (pool.root, pool.elder):
                    for ident, root in standing.book.roots.items():
                        tree, lost = walked(pool.drives, root.top)
                        self.assertEqual((tree.records, lost), (standing.trees[ident].records, []))
                self.assertTrue(is_good(pool.drives.cell(0, 0)) and is_good(pool.drives.cell(1, 33)))

    def test_an_eighth_write_does_not_come(self):
        pool = example_pool(snap=True)
        open_deed(pool, "a", with_values, "/f", 0, [5])
        pool.drives.arm(8, 0)
        self.assertEqual(commit(pool), 5)
        self.assertRaises(Off, commit, pool, always=True)


class RootsTest(unittest.TestCase):
    def test_what_make_gets_without_open_deeds(self):
        pool, got = example_pool(), []

        def make(standing, elder, last):
            got.append((standing, elder, last))
            return same_book(pool)

        root, elder = pool.root, pool.elder
        told = do_roots(pool, make)
        self.assertIs(told, pool.root)
        self.assertIs(got[0][0], root)
        self.assertIs(got[0][1], elder)
        self.assertEqual((got[0][2], len(got), told.number), (3, 1, 4))

    def test_open_deeds_are_committed_first(self):
        pool, got = example_pool(snap=True), []
        open_deed(pool, "a", with_values, "/f", 0, [5])
        root = pool.root

        def make(standing, elder, last):
            got.append((standing_seen(standing), elder, last, pool.root))
            return book_step(standing, last, standing.book, standing.trees, [])

        told = Told(pool.drives)
        standing = do_roots(pool, make)
        self.assertIs(got[0][1], root)
        self.assertIs(got[0][3], root)
        self.assertEqual((got[0][2], standing.number, pool.opened), (5, 6, []))
        self.assertEqual(got[0][0], standing_seen(pool.elder))
        self.assertEqual([line[0] for line in told.lines], [42, 43, 44, 51, 52, 12, "f", 11, "f", 23, "f", 22, "f"])
        check_pool(self, pool)

    def test_a_make_that_raises(self):
        for opened in (False, True):
            pool = example_pool(snap=True)
            if opened:
                open_deed(pool, "a", with_values, "/f", 0, [5])
            before = all_seen(pool)

            def make(standing, elder, last):
                raise Taken("a")

            self.assertEqual(refusal(do_roots, pool, make), ("Taken", "a"))
            self.assertEqual(all_seen(pool), before)
            self.assertEqual(len(pool.opened), 1 if opened else 0)

    def test_off_comes_ahead_of_make(self):
        pool, got = example_pool(), []
        pool.drives.start()
        self.assertEqual(refusal(do_roots, pool, lambda *given: got.append(given)), OFF)
        self.assertEqual(got, [])

    def test_power_lost_between_both_transactions(self):
        pool = example_pool(snap=True)
        open_deed(pool, "a", with_values, "/f", 0, [5])
        pool.drives.arm(8, 0)
        self.assertEqual(refusal(put_snapshot, pool, "a", "t"), OFF)
        self.assertEqual(pool.drives.cell(0, 11), head_row(1, 5, 7, 1, 40, 4, 1)[1])
        self.assertTrue(is_good(pool.drives.cell(0, 23)))
        self.assertEqual(pool.drives.cell(0, 22)[2], 3)

    def test_a_step_with_blocks(self):
        pool = example_pool()
        self.assertEqual(put_volume(pool, "b"), 2)
        check_pool(self, pool)
        self.assertEqual(contents(pool)["b"], {0: (2, 0)})
        put_quota(pool, "b", 9)
        self.assertEqual(pool.root.book.volumes[2].quota, 9)
        check_pool(self, pool)

    def test_standings_that_are_told_are_of_the_class(self):
        pool = example_pool()
        self.assertIsInstance(do_roots(pool, lambda standing, elder, last: same_book(pool)), Standing)


if __name__ == "__main__":
    unittest.main()
