import random
import unittest

from bornroots.bookrows import book_numbers
from bornroots.commit import commit
from bornroots.desk import cut_to, make_file, unlink, write
from bornroots.drives import Drives
from bornroots.drops import drop
from bornroots.mount import made_pool, mount
from bornroots.parcels import made_stream, sent
from bornroots.promotes import promote
from bornroots.receiving import receive
from bornroots.roomtold import room, used, written
from bornroots.snapshots import clone, rollback, snapshot
from bornroots.views import read
from bornroots.volumes import make_volume, set_quota

from books import seen
from histories import Story
from pools import check_pool, contents, filled, head_root
from rawpool import check_answers
from refusals import refusal
from rootdeeds import NO_NAMES, Case
from test_parcels import BASED, FULL, closed
from test_touched import sent_pool

RECORDS = {0: (2, 0), 7: (6, 1), 8: (1, 1, 0)}
MORE = closed((1, 7, 4, 7, 7, 2), (2, 8, 1, 1, 1), (2, 9, 5, 0, 0, 0, 0, 0, 0, 0))
GONE = closed((1, 7, 4, 7, 7, 1), (2, 7))


def taker(room=60, many=1):
    """A pool of the tag 3 with a volume z."""
    pool = made_pool(Drives(many, room), tag=3)
    make_volume(pool, "z")
    return pool


def taken_pool(**given):
    """The same with what FULL tells, received as a@s by transaction 3."""
    pool = taker(**given)
    receive(pool, FULL, "a", "s")
    return pool


class FullTest(Case):
    def test_what_is_made(self):
        pool = taker(many=2)
        begun = pool.drives.begun()
        self.assertEqual(receive(pool, FULL, "a", "s"), 3)
        self.assertEqual(seen(pool.root.book)[0], 4)
        self.assertEqual(seen(pool.root.book)[1][2], ("a", 0, 2))
        roots = seen(pool.root.book)[2]
        self.assertEqual(roots[2], (2, 2, None, 3, 0, (0, 0), (51, 3), ()))
        self.assertEqual(roots[3], (3, 2, "s", 0, 3, (7, 4), (51, 3), ()))
        # Seven blocks, a page and the head.
        self.assertEqual((pool.drives.begun() - begun, pool.root.number, room(pool)), (18, 3, (11, 0, 49)))
        self.assertEqual({address: birth for address, birth in pool.root.used.items() if birth == 3},
                         {cell: 3 for cell in range(45, 52)})
        self.assertEqual((contents(pool)["a"], contents(pool)["a@s"]), (RECORDS, RECORDS))
        self.assertEqual((used(pool, "a"), written(pool, "a"), written(pool, "a@s")), (7, 0, 7))
        check_pool(self, pool)
        check_answers(self, pool)
        self.assertEqual(seen(mount(pool.drives).root.book), seen(pool.root.book))

    def test_of_the_same_pool(self):
        pool = sent_pool()
        for text, vol in (("a@s", "b"), ("a@u", "c")):
            receive(pool, sent(pool, text), vol, "x")
            self.assertEqual(contents(pool)[vol], contents(pool)[text])
            self.assertEqual(pool.root.book.roots[head_root(pool, vol).prev].mark,
                             next(root.mark for root in pool.root.book.roots.values() if root.snap == text[-1]))
            check_answers(self, pool)
        check_pool(self, pool)

    def test_of_an_empty_volume(self):
        pool = taker()
        self.assertEqual(receive(pool, closed((1, 0, 0, 999, 1000002, 1), (2, 0, 2, 0)), "aaaa", "zzzz"), 3)
        self.assertEqual(pool.root.book.roots[3].mark, (999, 1000002))
        self.assertEqual(contents(pool)["aaaa@zzzz"], {0: (2, 0)})
        check_answers(self, mount(pool.drives))

    def test_deeds_behind_it(self):
        pool = taken_pool()
        write(pool, "a", "/f", 0, [5])
        snapshot(pool, "a", "t")
        clone(pool, "a@s", "b")
        write(pool, "b", "/f", 0, [6])
        commit(pool)
        check_answers(self, pool)
        self.assertEqual([read(pool, text, "/f", 0, 9) for text in ("a", "a@s", "b")], [[5], [], [6]])
        promote(pool, "b")
        check_answers(self, pool)
        self.assertEqual((rollback(pool, "b"), drop(pool, "a@t")), (5, 0))
        check_answers(self, pool)
        check_pool(self, pool)

    def test_records_that_are_not_sound(self):
        for rows in ([], [(0, (2, 1))], [(8, (1, 1, 0))], [(0, (2, 0)), (8, (1, 1, 0))], [(0, (2, 0)), (7, (6, 1))],
                     [(0, (2, 0)), (7, (6, 2)), (8, (1, 1, 0))], [(0, (2, 0)), (1, (6, 1)), (8, (1, 1, 0))],
                     [(0, (2, 0)), (7, (6, 1)), (8, (1, 2, 0))], [(0, (2, 0)), (7, (6, 1)), (8, (1, 1, 57))],
                     [(0, (2, 0, 0))], [(0, (1, 1, 0))], [(0, (2, 0)), (7, (0, 1)), (8, (1, 1, 0))],
                     [(0, (2, 0)), (7, (1000002, 1000002))], [(0, (2, 0)), (511, (1,) * 16)]):
            self.refused(taker(), ("BadStream", 0), receive, made_stream((0, 0), (7, 4), rows), "a", "s")

    def test_room(self):
        for cells, expected in ((15, None), (11, None), (10, ("NoRoom", 7)), (8, ("NoRoom", 7))):
            pool = taker(room=cells)
            self.assertEqual(refusal(receive, pool, FULL, "a", "s"), expected)
        pool = taker(room=8)
        self.refused(pool, ("NoRoom", 7), receive, FULL, "a", "s")

    def test_book_full(self):
        # A volume, its head and a snapshot are 23 numbers.
        for numbers, expected in ((577, None), (578, ("BookFull", 601)), (600, ("BookFull", 623))):
            pool = taker()
            pool.root = filled(pool.root, numbers)
            if expected:
                self.refused(pool, expected, receive, FULL, "a", "s")
            else:
                ident = receive(pool, FULL, "a", "s")
                self.assertEqual((len(book_numbers(pool.root.book)), pool.root.book.roots[ident].snap), (600, "s"))
                self.assertEqual(seen(mount(pool.drives).root.book), seen(pool.root.book))


class BasedTest(Case):
    def test_what_is_made(self):
        pool = taken_pool(many=2)
        begun = pool.drives.begun()
        self.assertEqual(receive(pool, MORE, "a", "u"), 4)
        roots = seen(pool.root.book)[2]
        # The leaves of 8 and 9, their node, the mid and the top are new; the old ones are dead, for a@s has them.
        dead = ((48, 3), (49, 3), (50, 3), (51, 3))
        self.assertEqual(roots[4], (4, 2, "u", 3, 4, (7, 7), (56, 4), dead))
        self.assertEqual(roots[2], (2, 2, None, 4, 0, (0, 0), (56, 4), ()))
        self.assertEqual(roots[3], (3, 2, "s", 0, 3, (7, 4), (51, 3), ()))
        self.assertEqual(seen(pool.root.book)[0], 5)
        # Five blocks, a page and the head on each drive.
        self.assertEqual((pool.drives.begun() - begun, used(pool, "a"), written(pool, "a@u")), (14, 12, 5))
        check_answers(self, pool)

    def test_numbers(self):
        pool = taken_pool()
        receive(pool, MORE, "a", "u")
        self.assertEqual((used(pool, "a"), written(pool, "a@u"), written(pool, "a")), (12, 5, 0))
        self.assertEqual({pair[1] for pair in pool.root.book.roots[4].dead}, {3})
        self.assertEqual((read(pool, "a", "/f", 0, 9), read(pool, "a@u", "/f", 0, 9), read(pool, "a@s", "/f", 0, 9)),
                         ([5], [5], []))
        check_pool(self, pool)
        check_answers(self, pool)

    def test_equal_records_are_no_new_blocks(self):
        # The row of BASED is the record that is there.
        pool = taken_pool()
        cells = dict(pool.root.used)
        receive(pool, BASED, "a", "u")
        self.assertEqual((pool.root.used, pool.root.book.roots[4].dead), (cells, ()))
        self.assertEqual(pool.root.book.roots[4].top, pool.root.book.roots[3].top)
        check_answers(self, pool)

    def test_of_another_pool_again_and_again(self):
        source, pool = sent_pool(), taker()
        base = None
        for at, name in enumerate("sbcd"):
            if at:
                write(source, "a", "/f", 3 * at, [at, at])
                if at == 2:
                    make_file(source, "a", "/g")
                if at == 3:
                    unlink(source, "a", "/g")
                snapshot(source, "a", name)
            receive(pool, sent(source, "a@" + name, base=base), "b", "x" + name)
            base = "a@" + name
            self.assertEqual(contents(pool)["b"], contents(source)[base])
            check_answers(self, pool)
        told = contents(pool)
        for name in "sbcd":
            self.assertEqual(told["b@x" + name], contents(source)["a@" + name])
        check_pool(self, pool)
        # What was received is sent on, and received by a third pool.
        third = taker()
        receive(third, sent(pool, "b@xs"), "q", "s")
        receive(third, sent(pool, "b@xd", base="b@xs"), "q", "d")
        self.assertEqual(contents(third)["q"], told["b@xd"])
        receive(third, sent(pool, "b@xd"), "r", "d")
        self.assertEqual(contents(third)["r@d"], told["b@xd"])
        check_answers(self, third)

    def test_the_stream_that_was_received_comes_out_again(self):
        source = sent_pool()
        write(source, "a", "/f", 0, [9])
        snapshot(source, "a", "v")
        pool = taker()
        for text, base in (("a@s", None), ("a@u", "a@s"), ("a@v", "a@u")):
            receive(pool, sent(source, text, base=base), "a", text[-1])
            self.assertEqual(sent(pool, text)[-1], sent(source, text)[-1])
            self.assertEqual(sent(pool, text), sent(source, text))
        self.assertEqual(sent(pool, "a@v", base="a@u"), sent(source, "a@v", base="a@u"))

    def test_into_a_clone_of_its_base(self):
        pool = sent_pool()
        clone(pool, "a@s", "b")
        receive(pool, sent(pool, "a@u", base="a@s"), "b", "u")
        self.assertEqual(contents(pool)["b@u"], contents(pool)["a@u"])
        check_pool(self, pool)
        check_answers(self, pool)

    def test_gone_keys(self):
        pool = taken_pool()
        write(pool, "a", "/f", 0, [5])
        snapshot(pool, "a", "t")
        mark = pool.root.book.roots[4].mark
        stream = closed((1, *mark, 9, 9, 3), (2, 8, 1, 1, 0), (2, 9), (2, 10))
        # Key 10 is not there: that it is gone changes nothing.
        receive(pool, stream, "a", "u")
        self.assertEqual((contents(pool)["a"], contents(pool)["a@u"]), (RECORDS, RECORDS))
        check_answers(self, pool)
        receive(pool, closed((1, 9, 9, 9, 10, 2), (2, 7), (2, 8)), "a", "v")
        self.assertEqual(contents(pool)["a"], {0: (2, 0)})
        check_answers(self, pool)

    def test_records_that_are_not_sound(self):
        for rows in ([(0, ())], [(7, ())], [(8, ())], [(8, (1, 2, 0))], [(9, (0,) * 8)], [(9, (5,) * 8)],
                     [(0, ()), (7, ()), (8, ())], [(16, (1, 1, 0))], [(7, (6, 1, 7, 1))]):
            self.refused(taken_pool(), ("BadStream", 0), receive, made_stream((7, 4), (7, 7), rows), "a", "u")
        self.refused(taken_pool(), ("BadStream", 0), receive, GONE, "a", "u")

    def test_quotas(self):
        for quota, expected in ((0, None), (12, None), (11, ("Quota", "a")), (7, ("Quota", "a"))):
            pool = taken_pool()
            set_quota(pool, "a", quota)
            if expected:
                self.refused(pool, expected, receive, MORE, "a", "u")
            else:
                receive(pool, MORE, "a", "u")
                self.assertEqual(used(pool, "a"), 12)

    def test_room(self):
        for cells, expected in ((16, None), (15, ("NoRoom", 5))):
            pool = taken_pool(room=cells)
            self.assertEqual(refusal(receive, pool, MORE, "a", "u"), expected)
        # No block is new, so no cell is needed.
        pool = taken_pool(room=11)
        self.assertEqual(receive(pool, BASED, "a", "u"), 4)

    def test_book_full(self):
        # The snapshot is ten numbers, and each of its four dead pairs two.
        for numbers, expected in ((582, None), (583, ("BookFull", 601))):
            pool = taken_pool()
            pool.root = filled(pool.root, numbers)
            if expected:
                self.refused(pool, expected, receive, MORE, "a", "u")
            else:
                receive(pool, MORE, "a", "u")
                self.assertEqual(len(book_numbers(pool.root.book)), 600)

    def test_the_order_of_the_last_three(self):
        pool = taken_pool(room=13)
        pool.root = filled(pool.root, 600)
        self.refused(pool, ("NoRoom", 5), receive, MORE, "a", "u")
        pool = taken_pool(room=13)
        set_quota(pool, "a", 7)
        pool.root = filled(pool.root, 600)
        self.refused(pool, ("Quota", "a"), receive, MORE, "a", "u")


class RefusalTest(Case):
    def test_in_their_order(self):
        pool = taken_pool()
        for name in NO_NAMES:
            self.refused(pool, ("BadName", name), receive, (), name, "S")
            self.refused(pool, ("BadName", name), receive, (), "a", name)
        for vol in ("a", "b"):
            self.refused(pool, ("BadStream", 0), receive, (), vol, "s")
            self.refused(pool, ("BadStream", 4), receive, (*FULL[:-1], (3, 491)), vol, "s")
            self.refused(pool, ("BadStream", 3), receive, (*BASED, (1,)), vol, "s")
        self.refused(pool, ("Taken", "a"), receive, FULL, "a", "s")
        self.refused(pool, ("Taken", "a"), receive, made_stream((0, 0), (7, 4), []), "a", "t")
        self.refused(pool, ("NoVolume", "b"), receive, BASED, "b", "s")
        self.refused(pool, ("Taken", "s"), receive, BASED, "a", "s")
        self.refused(pool, ("NoBase", "a"), receive, made_stream((7, 5), (7, 7), [(0, ())]), "a", "t")
        self.refused(pool, ("NoBase", "a"), receive, made_stream((8, 4), (7, 7), [(0, ())]), "a", "t")
        # A head without a prev has no base.
        self.refused(pool, ("NoBase", "z"), receive, BASED, "z", "s")
        self.off(receive, (), "A", "S")
        self.off(receive, FULL, "b", "s")

    def test_changed(self):
        pool = taken_pool()
        write(pool, "a", "/f", 0, [5])
        commit(pool)
        self.refused(pool, ("Changed", "a"), receive, BASED, "a", "u")
        self.refused(pool, ("Changed", "a"), receive, GONE, "a", "u")
        cut_to(pool, "a", "/f", 0)
        commit(pool)
        # The records are those of the snapshot again, but the blocks are not.
        self.assertEqual(contents(pool)["a"], contents(pool)["a@s"])
        self.refused(pool, ("Changed", "a"), receive, BASED, "a", "u")
        rollback(pool, "a")
        self.assertEqual(receive(pool, BASED, "a", "u"), 4)

    def test_the_last_snapshot_alone_is_a_base(self):
        pool = taken_pool()
        receive(pool, closed((1, 7, 4, 7, 7, 1), (2, 8, 1, 1, 0)), "a", "u")
        self.refused(pool, ("NoBase", "a"), receive, BASED, "a", "v")
        drop(pool, "a@u")
        self.assertEqual(receive(pool, BASED, "a", "v"), 5)
        check_answers(self, pool)

    def test_open_deeds(self):
        pool = taken_pool()
        cut_to(pool, "a", "/f", 0)
        make_file(pool, "z", "/q")
        self.assertEqual(len(pool.opened), 2)
        # No record of a was changed; the deed of z is committed ahead.
        self.assertEqual(receive(pool, BASED, "a", "u"), 4)
        self.assertEqual((pool.root.number, pool.elder.number, pool.opened), (5, 4, []))
        self.assertEqual(pool.root.book.roots[4].time, 5)
        check_pool(self, pool)
        check_answers(self, pool)

    def test_open_deeds_that_come_back_to_the_records(self):
        pool = taken_pool()
        write(pool, "a", "/f", 0, [5])
        cut_to(pool, "a", "/f", 0)
        self.assertEqual(receive(pool, BASED, "a", "u"), 4)
        check_answers(self, pool)

    def test_open_deeds_that_change_a_record(self):
        pool = taken_pool()
        write(pool, "a", "/f", 0, [5])
        self.refused(pool, ("Changed", "a"), receive, BASED, "a", "u")
        self.refused(pool, ("BadStream", 2), receive, (*BASED[:-1], (3, 1)), "a", "u")
        self.refused(pool, ("Taken", "a"), receive, FULL, "a", "u")
        self.refused(pool, ("BadStream", 0), receive, made_stream((0, 0), (7, 4), []), "b", "u")
        self.assertEqual((len(pool.opened), pool.root.number, read(pool, "a", "/f", 0, 9)), (1, 3, [5]))
        self.assertEqual(receive(pool, FULL, "b", "u"), 5)
        self.assertEqual((pool.root.number, read(pool, "a", "/f", 0, 9)), (5, [5]))
        check_answers(self, pool)

    def test_room_behind_open_deeds(self):
        # The open deed takes five cells; the elder by then is the root, so four of its blocks stay.
        for cells, expected in ((23, None), (22, ("NoRoom", 7))):
            pool = taken_pool(room=cells)
            write(pool, "a", "/f", 0, [5])
            if expected:
                self.refused(pool, expected, receive, FULL, "b", "s")
                self.assertEqual(len(pool.opened), 1)
            else:
                receive(pool, FULL, "b", "s")


class ArgumentsTest(unittest.TestCase):
    def test_a_stream_of_lists_stays_and_may_be_spoilt(self):
        pool = taker()
        stream = [list(parcel) for parcel in FULL]
        receive(pool, stream, "a", "s")
        self.assertEqual(stream, [list(parcel) for parcel in FULL])
        stream[1][2:] = [9, 9, 9]
        stream.clear()
        self.assertEqual(contents(pool)["a@s"], RECORDS)
        self.assertEqual({type(record) for record in contents(pool)["a"].values()}, {tuple})
        self.assertEqual(sent(pool, "a@s"), FULL)

    def test_long_rows(self):
        for seed in range(3):
            chance, streams = random.Random(300 + seed), {}
            stories = [Story(self, chance, Drives(2, 200), tag=tag, streams=streams) for tag in (1, 2)]
            for at in range(120):
                story = chance.choice(stories)
                story.one()
                if at % 20 == 0:
                    story.whole()


if __name__ == "__main__":
    unittest.main()
