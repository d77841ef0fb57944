import unittest

from bornroots.bookrows import book_numbers
from bornroots.deedsdata import with_values
from bornroots.deedsmake import with_file, with_folder
from bornroots.plan import Step, behind_open, book_step, content_step
from bornroots.roots import Root, Volume
from bornroots.rows import BRANCH, LEAF, made_row
from bornroots.space import Standing

from books import seen
from pools import (all_seen, check_standing, example_pool, filled, head_root, new_pool, open_deed, pool_seen,
                   put_snapshot, put_volume, standing_seen, with_new_head)
from refusals import refusal

EMPTY = {0: (2, 0)}
WITH_F = {0: (2, 0), 7: (6, 1), 8: (1, 1, 0)}
WRITTEN = {0: (2, 0), 7: (6, 1), 8: (1, 1, 1), 9: (5, 0, 0, 0, 0, 0, 0, 0)}


def branch(address, birth, *pairs):
    payload = [number for pair in pairs for number in pair]
    return (address, made_row(BRANCH, address, birth, payload + [0] * (16 - len(payload))))


def leaf(address, birth, *record):
    return (address, made_row(LEAF, address, birth, record))


def step_of(pool, drafts, **named):
    return content_step(pool.root, pool.elder, pool.last, pool.drives.room, drafts, **named)


def quota_of(standing, head, quota):
    """The standing with another quota of a volume."""
    book = standing.book.twin()
    book.volumes[head] = Volume(book.volumes[head].name, quota, head)
    return Standing(standing.number, standing.area, standing.ahead, book, standing.trees, standing.used)


class ExampleTest(unittest.TestCase):
    def test_a_new_volume(self):
        pool = new_pool()
        begun, head = with_new_head(pool.root, "a")
        step = content_step(begun, None, 1, 40, {head: EMPTY})
        self.assertIsInstance(step, Step)
        self.assertEqual(step.rows, [leaf(41, 2, 2, 0), branch(42, 2, (41, 2)), branch(43, 2, (42, 2)),
                                     branch(44, 2, (43, 2))])
        told = step.standing
        self.assertEqual((told.number, told.area, told.ahead), (2, 1, 1))
        self.assertEqual(book_numbers(told.book), (2, 1, 1, 1, 0, 1, 1, 1, 0, 0, 0, 0, 0, 44, 2, 0))
        self.assertEqual(told.used, {41: 2, 42: 2, 43: 2, 44: 2})
        self.assertEqual((told.trees[1].records, told.trees[1].top()), (EMPTY, (44, 2)))

    def test_the_file(self):
        pool = new_pool()
        put_volume(pool, "a")
        step = step_of(pool, {1: WITH_F})
        self.assertEqual(step.rows, [
            leaf(45, 3, 6, 1), branch(46, 3, (41, 2), *[(0, 0)] * 6, (45, 3)), leaf(47, 3, 1, 1, 0),
            branch(48, 3, (47, 3)), branch(49, 3, (46, 3), (48, 3)), branch(50, 3, (49, 3))])
        told = step.standing
        self.assertEqual((told.number, told.area, told.ahead), (3, 2, 2))
        self.assertEqual(book_numbers(told.book), (2, 1, 1, 1, 0, 1, 1, 1, 0, 0, 0, 0, 0, 50, 3, 0))
        self.assertEqual(told.used, {41: 2, 45: 3, 46: 3, 47: 3, 48: 3, 49: 3, 50: 3})

    def test_blocks_that_the_snapshot_has_join_the_dead_list(self):
        pool = example_pool(snap=True)
        step = step_of(pool, {1: WRITTEN})
        told = step.standing
        self.assertEqual(book_numbers(told.book),
                         (3, 1, 2, 1, 0, 1, 1, 1, 0, 2, 0, 0, 0, 52, 5, 4, 47, 3, 48, 3, 49, 3, 50, 3,
                          2, 1, 19, 0, 4, 7, 4, 50, 3, 0))
        self.assertEqual([place for place, _ in step.rows], [42, 43, 44, 51, 52])
        self.assertEqual(told.used, {**pool.root.used, 42: 5, 43: 5, 44: 5, 51: 5, 52: 5})
        self.assertEqual((told.number, told.area, told.ahead), (5, 1, 4))
        self.assertEqual(told.trees[2].records, WITH_F)


class ContentTest(unittest.TestCase):
    def test_some_are_let_go_and_some_join(self):
        pool = example_pool(written=True)
        step = step_of(pool, {1: {**WRITTEN, 7: (6, 1, 8, 2), 16: (1, 1, 0)}})
        head = step.standing.book.roots[1]
        # 46 is of transaction 3, the mid and the top are of 5, behind the snapshot of time 4.
        self.assertEqual(head.dead, ((45, 3), (46, 3), (47, 3), (48, 3), (49, 3), (50, 3)))
        self.assertEqual(sorted(set(pool.root.used) - set(step.standing.used)), [51, 52])
        self.assertEqual([place for place, _ in step.rows], [53, 54, 55, 56, 57, 58])

    def test_all_records_of_a_tree_go(self):
        pool = example_pool(written=True)
        step = step_of(pool, {1: {}})
        head = step.standing.book.roots[1]
        self.assertEqual((step.rows, head.top, head.dead), ([], (0, 0), tuple(pool.root.trees[2].pairs())))
        self.assertEqual(step.standing.used, {address: birth for address, birth in pool.root.used.items() if birth < 5})
        self.assertEqual((step.standing.trees[1].places, step.standing.trees[1].records), ({}, {}))

    def test_a_cell_that_is_let_go_is_not_taken_at_once(self):
        pool = example_pool()
        self.assertEqual([place for place, _ in step_of(pool, {1: WRITTEN}).rows], [51, 52, 53, 54, 55])
        step = content_step(pool.root, None, pool.last, 40, {1: WRITTEN})
        self.assertEqual([place for place, _ in step.rows], [42, 43, 44, 51, 52])

    def test_volumes_by_the_idents_of_their_heads(self):
        pool = new_pool()
        heads = [put_volume(pool, name) for name in ("b", "a")]
        self.assertEqual(heads, [1, 2])
        step = step_of(pool, {2: WITH_F, 1: {0: (2, 0), 2: (8, 1), 8: (2, 0)}})
        self.assertEqual([(place, row[4:-1]) for place, row in step.rows if row[0] == LEAF],
                         [(49, (8, 1)), (51, (2, 0)), (55, (6, 1)), (57, (1, 1, 0))])
        self.assertEqual([row[2] for _, row in step.rows], [4] * 12)
        self.assertEqual([place for place, _ in step.rows], list(range(49, 61)))
        told = step.standing
        self.assertEqual((told.book.roots[1].top, told.book.roots[2].top), ((54, 4), (60, 4)))
        self.assertEqual((told.number, told.area, told.ahead), (4, 0, 3))

    def test_a_volume_of_which_no_record_changed(self):
        pool = example_pool(written=True)
        put_volume(pool, "b")
        step = step_of(pool, {1: dict(WRITTEN), 3: WITH_F})
        self.assertEqual(len(step.rows), 6)
        self.assertIs(step.standing.book.roots[1], pool.root.book.roots[1])
        self.assertIs(step.standing.trees[1], pool.root.trees[1])
        step = step_of(pool, {1: dict(WRITTEN)})
        self.assertEqual(step.rows, [])
        self.assertEqual(seen(step.standing.book), seen(pool.root.book))
        self.assertEqual((step.standing.used, step.standing.number), (pool.root.used, pool.root.number + 1))

    def test_no_drafts(self):
        pool = example_pool(written=True)
        step = step_of(pool, {})
        self.assertEqual((step.rows, seen(step.standing.book), step.standing.used),
                         ([], seen(pool.root.book), pool.root.used))
        self.assertEqual((step.standing.number, step.standing.area, step.standing.ahead), (6, 2, 5))

    def test_the_number_goes_by_the_last_given_one(self):
        pool = example_pool()
        step = content_step(pool.root, pool.elder, 8, 40, {1: WRITTEN})
        told = step.standing
        self.assertEqual((told.number, told.area, told.ahead), (9, 0, 3))
        self.assertEqual([row[2] for _, row in step.rows], [9] * 5)

    def test_what_it_leaves_is_whole(self):
        pool = example_pool(written=True)
        step = step_of(pool, {1: {0: (2, 0), 2: (8, 1), 8: (1, 1, 0)}})
        for place, row in step.rows:
            pool.drives.put(place, row)
        check_standing(self, pool.drives, step.standing)


class RefusalsTest(unittest.TestCase):
    def refused(self, standing, elder, room, drafts):
        before = standing_seen(standing)
        told = refusal(content_step, standing, elder, 7, room, drafts)
        self.assertEqual(standing_seen(standing), before)
        return told

    def test_quota_at_its_edge(self):
        pool = example_pool(written=True)
        # The snapshot has written 7 and the head 5; a file more costs six blocks, two of them in the place of others.
        more = {**WRITTEN, 7: (6, 1, 8, 2), 16: (1, 1, 0)}
        used = 12 + 6 - 2
        for quota, told in ((used, None), (used - 1, ("Quota", "a")), (1, ("Quota", "a")), (0, None), (1000, None)):
            self.assertEqual(self.refused(quota_of(pool.root, 1, quota), pool.elder, 40, {1: more}), told)

    def test_quota_counts_what_is_let_go(self):
        pool = example_pool()
        # Four of the seven blocks are replaced and let go, five are new.
        self.assertIsNone(self.refused(quota_of(pool.root, 1, 8), pool.elder, 40, {1: WRITTEN}))
        self.assertEqual(self.refused(quota_of(pool.root, 1, 7), pool.elder, 40, {1: WRITTEN}), ("Quota", "a"))

    def test_quota_is_judged_where_no_record_changed(self):
        pool = example_pool()
        self.assertEqual(self.refused(quota_of(pool.root, 1, 6), pool.elder, 40, {1: dict(WITH_F)}), ("Quota", "a"))
        self.assertIsNone(self.refused(quota_of(pool.root, 1, 7), pool.elder, 40, {1: dict(WITH_F)}))
        self.assertIsNone(self.refused(quota_of(pool.root, 1, 6), pool.elder, 40, {}))

    def test_quota_of_a_new_volume(self):
        for quota, told in ((3, ("Quota", "a")), (4, None), (0, None)):
            begun, head = with_new_head(new_pool().root, "a", quota)
            self.assertEqual(self.refused(begun, None, 8, {head: EMPTY}), told)

    def test_of_two_quotas_that_of_the_lesser_head(self):
        pool = new_pool()
        for name in ("b", "a"):
            put_volume(pool, name)
        both = {2: WITH_F, 1: WITH_F}
        root = quota_of(quota_of(pool.root, 1, 6), 2, 6)
        self.assertEqual(self.refused(root, None, 40, both), ("Quota", "b"))
        self.assertEqual(self.refused(quota_of(pool.root, 2, 6), None, 40, both), ("Quota", "a"))
        self.assertEqual(self.refused(quota_of(pool.root, 2, 6), None, 8, both), ("Quota", "a"))
        self.assertIsNone(self.refused(quota_of(quota_of(pool.root, 1, 7), 2, 7), None, 40, both))

    def test_no_room_at_its_edge(self):
        pool = example_pool()
        # Cells 41 to 50 are held by the root and the elder.
        for room, told in ((15, None), (14, ("NoRoom", 5)), (10, ("NoRoom", 5))):
            self.assertEqual(self.refused(pool.root, pool.elder, room, {1: WRITTEN}), told)
        self.assertIsNone(self.refused(pool.root, None, 12, {1: WRITTEN}))
        self.assertEqual(self.refused(pool.root, None, 11, {1: WRITTEN}), ("NoRoom", 5))

    def test_blocks_of_all_volumes_are_counted_together(self):
        pool = new_pool()
        for name in ("a", "b"):
            put_volume(pool, name)
        both = {1: WITH_F, 2: WITH_F}
        self.assertIsNone(self.refused(pool.root, pool.elder, 20, both))
        self.assertEqual(self.refused(pool.root, pool.elder, 19, both), ("NoRoom", 12))
        self.assertEqual(self.refused(pool.root, pool.elder, 8, both), ("NoRoom", 12))

    def test_book_full_at_its_edge(self):
        pool = example_pool(snap=True)
        # Four pairs join the dead list: eight numbers.
        for numbers, told in ((592, None), (593, ("BookFull", 601)), (600, ("BookFull", 608))):
            self.assertEqual(self.refused(filled(pool.root, numbers), pool.elder, 40, {1: WRITTEN}), told)
        self.assertIsNone(self.refused(filled(pool.root, 600), pool.elder, 40, {1: dict(WITH_F)}))
        self.assertEqual(self.refused(filled(pool.root, 601), pool.elder, 40, {}), ("BookFull", 601))

    def test_their_order(self):
        pool = example_pool(snap=True)
        full = filled(pool.root, 600)
        self.assertEqual(self.refused(quota_of(full, 1, 1), pool.elder, 10, {1: WRITTEN}), ("Quota", "a"))
        self.assertEqual(self.refused(quota_of(full, 1, 12), pool.elder, 10, {1: WRITTEN}), ("NoRoom", 5))
        self.assertEqual(self.refused(quota_of(full, 1, 12), pool.elder, 12, {1: WRITTEN}), ("BookFull", 608))
        self.assertEqual(self.refused(quota_of(full, 1, 11), pool.elder, 12, {1: WRITTEN}), ("Quota", "a"))


class FinishTest(unittest.TestCase):
    def with_snap(self, told):
        book = told.book.twin()
        head = book.roots[1]
        ident = book.next_id
        book.roots[ident] = Root(ident, 1, "x", head.prev, told.number, (7, told.number), head.top, head.dead)
        book.roots[1] = Root(1, 1, None, ident, 0, (0, 0), head.top, ())
        book.next_id = ident + 1
        return Standing(told.number, told.area, told.ahead, book, {**told.trees, ident: told.trees[1]}, told.used)

    def test_it_gets_the_new_standing_and_tells_the_one_that_is_put(self):
        pool = example_pool(snap=True)
        got = []

        def finish(told):
            got.append(told)
            got.append(self.with_snap(told))
            return got[1]

        plain, step = step_of(pool, {1: WRITTEN}), step_of(pool, {1: WRITTEN}, finish=finish)
        self.assertEqual(len(got), 2)
        self.assertEqual(standing_seen(got[0]), standing_seen(plain.standing))
        self.assertIs(step.standing, got[1])
        self.assertEqual(step.rows, plain.rows)

    def test_behind_no_room_and_ahead_of_book_full(self):
        pool = example_pool(snap=True)
        got = []

        def finish(told):
            got.append(told)
            return self.with_snap(told)

        self.assertEqual(refusal(content_step, pool.root, pool.elder, 4, 11, {1: WRITTEN}, finish=finish),
                         ("NoRoom", 5))
        self.assertEqual(refusal(content_step, quota_of(pool.root, 1, 5), pool.elder, 4, 40, {1: WRITTEN},
                                 finish=finish), ("Quota", "a"))
        self.assertEqual(got, [])
        for numbers, told in ((582, None), (583, ("BookFull", 601))):
            full = filled(pool.root, numbers)
            self.assertEqual(refusal(content_step, full, pool.elder, 4, 40, {1: WRITTEN}, finish=finish), told)
        # What finish tells is asked, not what it was told.
        self.assertIsNone(refusal(content_step, filled(pool.root, 600), pool.elder, 4, 40, {1: WRITTEN},
                                  finish=lambda told: pool.root))


class BookStepTest(unittest.TestCase):
    def test_pairs_are_let_go(self):
        pool = example_pool(written=True)
        book = pool.root.book.twin()
        book.roots[1] = Root(1, 1, None, 2, 0, (0, 0), (50, 3), ())
        gone = [(42, 5), (43, 5), (44, 5), (51, 5), (52, 5)]
        step = book_step(pool.root, 5, book, {1: pool.root.trees[2], 2: pool.root.trees[2]}, gone)
        told = step.standing
        self.assertEqual((step.rows, told.number, told.area, told.ahead), ([], 6, 2, 5))
        self.assertEqual(told.used, pool.elder.used)
        self.assertEqual(seen(told.book), seen(book))
        self.assertEqual(told.trees, {1: pool.root.trees[2], 2: pool.root.trees[2]})
        check_standing(self, pool.drives, told)
        self.assertEqual(gone, [(42, 5), (43, 5), (44, 5), (51, 5), (52, 5)])

    def test_nothing_is_let_go(self):
        pool = example_pool(written=True)
        step = book_step(pool.root, 9, pool.root.book, pool.root.trees, [])
        self.assertEqual((step.standing.number, step.standing.ahead, step.standing.area), (10, 5, 2))
        self.assertEqual((step.standing.used, step.standing.trees), (pool.root.used, pool.root.trees))

    def test_book_full(self):
        pool = example_pool(written=True)
        for numbers, told in ((600, None), (601, ("BookFull", 601)), (750, ("BookFull", 750))):
            full = filled(pool.root, numbers)
            self.assertEqual(refusal(book_step, pool.root, 5, full.book, full.trees, []), told)

    def test_what_is_handed_in_is_copied(self):
        pool = example_pool(written=True)
        book, trees, gone = pool.root.book.twin(), dict(pool.root.trees), [(42, 5)]
        before = standing_seen(pool.root)
        step = book_step(pool.root, 5, book, trees, gone)
        trees.clear()
        gone.clear()
        self.assertEqual(sorted(step.standing.trees), [1, 2])
        step.standing.used.clear()
        step.standing.trees.clear()
        step.standing.book.roots.clear()
        self.assertEqual(standing_seen(pool.root), before)


class BehindOpenTest(unittest.TestCase):
    def test_without_open_deeds(self):
        pool = example_pool(written=True)
        told = behind_open(pool)
        self.assertIsInstance(told, tuple)
        standing, elder, last, step = told
        self.assertIs(standing, pool.root)
        self.assertIs(elder, pool.elder)
        self.assertEqual((last, step), (5, None))

    def test_with_open_deeds(self):
        pool = example_pool(snap=True)
        other = put_volume(pool, "b")
        open_deed(pool, "b", with_folder, "/d")
        open_deed(pool, "a", with_values, "/f", 0, [4])
        open_deed(pool, "a", with_values, "/f", 0, [5])
        open_deed(pool, "b", with_file, "/d/x")
        before = all_seen(pool)
        standing, elder, last, step = behind_open(pool)
        self.assertEqual(all_seen(pool), before)
        self.assertIs(standing, step.standing)
        self.assertIs(elder, pool.root)
        self.assertEqual((last, standing.number, standing.ahead, pool.root.number), (6, 6, 5, 5))
        self.assertEqual(standing.trees[1].records, WRITTEN)
        self.assertEqual(standing.trees[other].records, pool.records_of(head_root(pool, "b")))
        drafts = {other: pool.records_of(head_root(pool, "b")), 1: WRITTEN}
        self.assertEqual(step.rows, step_of(pool, drafts).rows)

    def test_deeds_that_change_no_record_make_a_step_too(self):
        pool = example_pool()
        open_deed(pool, "a", lambda records: dict(records))
        standing, elder, last, step = behind_open(pool)
        self.assertEqual((step.rows, last, standing.number), ([], 4, 4))
        self.assertIs(elder, pool.root)

    def test_the_last_given_number_counts(self):
        pool = example_pool()
        pool.last = 9
        self.assertEqual(behind_open(pool)[2], 9)
        open_deed(pool, "a", with_values, "/f", 0, [5])
        self.assertEqual(behind_open(pool)[2], 10)


class ArgumentsTest(unittest.TestCase):
    def test_what_is_handed_in_stays_and_is_copied(self):
        pool = example_pool(snap=True)
        before, drafts = pool_seen(pool), {1: dict(WRITTEN)}
        step = step_of(pool, drafts)
        self.assertEqual((drafts, pool_seen(pool)), ({1: WRITTEN}, before))
        drafts[1].clear()
        self.assertEqual(step.standing.trees[1].records, WRITTEN)
        step.standing.used.clear()
        step.standing.trees.clear()
        step.standing.book.roots.clear()
        step.standing.book.volumes.clear()
        self.assertEqual(pool_seen(pool), before)

    def test_rows_are_copied(self):
        rows = [(41, (5, 41, 2, 0, 93))]
        step = Step(new_pool().root, rows)
        rows.clear()
        self.assertEqual(step.rows, [(41, (5, 41, 2, 0, 93))])

    def test_finish_by_name_alone(self):
        root = new_pool().root
        self.assertRaises(TypeError, content_step, root, None, 1, 40, {}, None)

    def test_a_snapshot_keeps_its_tree(self):
        pool = example_pool(written=True)
        put_snapshot(pool, "a", "t")
        step = step_of(pool, {1: EMPTY})
        self.assertIs(step.standing.trees[2], pool.root.trees[2])
        self.assertIs(step.standing.book.roots[2], pool.root.book.roots[2])
        self.assertEqual(step.standing.trees[1].records, EMPTY)


if __name__ == "__main__":
    unittest.main()
