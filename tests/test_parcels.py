import unittest

from bornroots.commit import commit
from bornroots.desk import make_file, unlink, write
from bornroots.joins import joined
from bornroots.parcels import checked, made_stream, sent
from bornroots.snapshots import clone, snapshot

from pools import example_pool
from rawpool import check, raws_of
from refusals import refusal
from rootdeeds import Case
from test_promotes import clone_pool, long_pool
from test_snapshots import NO_ROOTS
from test_touched import sent_pool

FULL = ((1, 0, 0, 7, 4, 3), (2, 0, 2, 0), (2, 7, 6, 1), (2, 8, 1, 1, 0), (3, 490))
BASED = ((1, 7, 4, 7, 7, 1), (2, 8, 1, 1, 0), (3, 193))
M = 1000003


def closed(*parcels):
    """These parcels with the last one that is right for them."""
    return (*parcels, (3, check([number for parcel in parcels for number in parcel])))


def with_at(stream, at, parcel):
    return (*stream[:at], parcel, *stream[at + 1:])


class SentTest(Case):
    def test_the_examples(self):
        self.assertEqual(sent(example_pool(snap=True), "a@s"), FULL)
        pool = sent_pool()
        self.assertEqual((sent(pool, "a@s"), sent(pool, "a@u", base="a@s")), (FULL, BASED))
        self.assertEqual(sent(pool, "a@u"), ((1, 0, 0, 7, 7, 3), *FULL[1:4], (3, 505)))

    def test_keys_that_are_gone(self):
        pool = example_pool(snap=True)
        write(pool, "a", "/f", 0, [5])
        snapshot(pool, "a", "t")
        unlink(pool, "a", "/f")
        make_file(pool, "a", "/aaaa")
        snapshot(pool, "a", "u")
        rows = ((2, 1, 20440, 1), (2, 7), (2, 8, 1, 1, 0))
        self.assertEqual(sent(pool, "a@u", base="a@s"), closed((1, 7, 4, 7, 8, 3), *rows))
        self.assertEqual(sent(pool, "a@u", base="a@t"), closed((1, 7, 6, 7, 8, 4), *rows, (2, 9)))
        self.assertEqual(sent(pool, "a@u"), closed((1, 0, 0, 7, 8, 3), (2, 0, 2, 0), *rows[::2]))

    def test_the_base_itself(self):
        pool = sent_pool()
        self.assertEqual(sent(pool, "a@u", base="a@u"), closed((1, 7, 7, 7, 7, 0)))

    def test_of_an_origin(self):
        pool = long_pool()
        raw = raws_of(pool)[0]
        many = 0
        for low in raw.roots:
            for high in [None, *raw.roots]:
                if not raw.roots[low]["time"] or high is not None and not raw.roots[high]["time"]:
                    continue
                self.way(pool, raw, low, high)
                many += 1
        self.assertEqual(many, 5 * 6)

    def way(self, pool, raw, low, high):
        root, text = raw.roots[low], raw.roots[low]["text"]
        if high is None:
            rows = [(2, key, *raw.records[low][key]) for key in sorted(raw.records[low])]
            self.assertEqual(sent(pool, text), closed((1, 0, 0, *root["mark"], len(rows)), *rows))
        elif high == low or raw.is_above(high, low):
            rows = [(2, key, *raw.records[low].get(key, ())) for key in raw.touched(high, low)]
            base = raw.roots[high]
            self.assertEqual(sent(pool, text, base=base["text"]),
                             closed((1, *base["mark"], *root["mark"], len(rows)), *rows))
        else:
            expected = ("NoBase", raw.roots[high]["text"])
            self.refused(pool, expected, sent, text, base=raw.roots[high]["text"])

    def test_open_deeds_do_not_count(self):
        pool = example_pool(snap=True)
        write(pool, "a", "/f", 0, [5])
        self.assertEqual(sent(pool, "a@s"), FULL)
        commit(pool)
        self.assertEqual(sent(pool, "a@s"), FULL)

    def test_refusals_in_their_order(self):
        pool = clone_pool("x")
        for text in NO_ROOTS:
            self.refused(pool, ("BadName", text), sent, text, base="@")
            if text is not None:
                self.refused(pool, ("BadName", text), sent, "c", base=text)
        for root, base, expected in (("c", "d", ("NoVolume", "c")), ("a@t", "d", ("NoRoot", "a@t")),
                                     ("a", "d", ("NoVolume", "d")), ("a", "a@t", ("NoRoot", "a@t")),
                                     ("a", "b", ("NoSnap", "a")), ("a@s", "b", ("NoSnap", "b")),
                                     ("a@s", "a", ("NoSnap", "a")), ("a@s", "b@x", ("NoBase", "b@x")),
                                     ("a", None, ("NoSnap", "a"))):
            self.refused(pool, expected, sent, root, base=base)
        self.assertEqual(sent(pool, "b@x", base="a@s")[0][1:5], (7, 4, 7, 8))
        self.off(sent, "@", base="@")
        self.off(sent, "a@s")

    def test_base_by_name_alone(self):
        self.assertRaises(TypeError, sent, sent_pool(), "a@u", "a@s")

    def test_kinds(self):
        pool = sent_pool()
        for stream in (sent(pool, "a@s"), sent(pool, "a@u", base="a@s"), made_stream((0, 0), (7, 1), [])):
            self.assertEqual({type(stream), *map(type, stream)}, {tuple})


class MadeTest(unittest.TestCase):
    def test_made(self):
        self.assertEqual(made_stream((0, 0), (7, 4), [(0, (2, 0)), (7, (6, 1)), (8, (1, 1, 0))]), FULL)
        self.assertEqual(made_stream((7, 4), (7, 7), [(8, (1, 1, 0))]), BASED)
        self.assertEqual(made_stream((0, 0), (7, 4), []), closed((1, 0, 0, 7, 4, 0)))
        self.assertEqual(made_stream((999, 3), (0, 4), [(3, ()), (511, (M - 1,) * 16)]),
                         closed((1, 999, 3, 0, 4, 2), (2, 3), (2, 511, *[M - 1] * 16)))

    def test_the_rows_stay(self):
        rows = [(8, (1, 1, 0))]
        made_stream((7, 4), (7, 7), rows)
        self.assertEqual(rows, [(8, (1, 1, 0))])


class CheckedTest(unittest.TestCase):
    def bad(self, stream, index):
        self.assertEqual(refusal(checked, stream), ("BadStream", index), stream)
        self.assertEqual(refusal(checked, [list(parcel) for parcel in stream]), ("BadStream", index))
        # What is joined is checked, the first one ahead of the second one.
        self.assertEqual(refusal(joined, stream, ()), ("BadStream", index))
        self.assertEqual(refusal(joined, FULL, stream), ("BadStream", index))

    def test_right_ones(self):
        rows = [(0, (2, 0)), (7, (6, 1)), (8, (1, 1, 0))]
        for stream in (FULL, list(FULL), [list(parcel) for parcel in FULL], tuple(list(parcel) for parcel in FULL)):
            told = checked(stream)
            self.assertEqual(told, ((0, 0), (7, 4), rows))
            self.assertEqual([type(part) for part in told], [tuple, tuple, list])
            self.assertEqual({type(part) for row in told[2] for part in (row, row[1])}, {tuple})
        self.assertEqual(checked(BASED), ((7, 4), (7, 7), [(8, (1, 1, 0))]))
        for stream in (closed((1, 0, 0, 0, 1, 0)), closed((1, 0, 1, 999, M - 1, 0)), closed((1, 999, M - 1, 7, 4, 0)),
                       closed((1, 1, 1, 1, 1, 2), (2, 0), (2, 511, *[M - 1] * 16)),
                       closed((1, 0, 0, 1, 1, 512), *[(2, key, 0) for key in range(512)]),
                       closed((1, 7, 7, 7, 4, 1), (2, 3))):
            base, mark, rows = checked(stream)
            self.assertEqual(made_stream(base, mark, rows), stream)

    def test_the_first_parcel(self):
        for parcel in ((), (1,), (1, 0, 0, 7, 4), (1, 0, 0, 7, 4, 3, 0), (0, 0, 0, 7, 4, 3), (2, 0, 0, 7, 4, 3),
                       (3, 0, 0, 7, 4, 3), (1, 1, 0, 7, 4, 3), (1, 999, 0, 7, 4, 3), (1, 1000, 4, 7, 4, 3),
                       (1, 1000, 0, 7, 4, 3), (1, -1, 4, 7, 4, 3), (1, -1, 0, 7, 4, 3), (1, 0, -1, 7, 4, 3),
                       (1, 0, M, 7, 4, 3), (1, 0, 0, 1000, 4, 3), (1, 0, 0, -1, 4, 3), (1, 0, 0, 7, 0, 3),
                       (1, 0, 0, 7, -1, 3), (1, 0, 0, 7, M, 3), (1, 0, 0, 7, 4, 513), (1, 0, 0, 7, 4, -1),
                       (1, 0, 0, 0, 0, 3), (1, 0, 0, 7, 4, M)):
            self.bad(with_at(FULL, 0, parcel), 0)
            self.bad((parcel,), 0)
            self.bad(with_at(with_at(FULL, 0, parcel), 2, ()), 0)

    def test_rows(self):
        wrong = [(), (2,), (1, 7, 6, 1), (3, 7, 6, 1), (0, 7, 6, 1), (2, -1, 6, 1), (2, 512, 6, 1), (2, M, 6),
                 (2, 7, -1), (2, 7, M), (2, 7, 0, M), (2, 7, *[0] * 17), (2, 7, *[0] * 18), (3, 7), (M, 7, 0)]
        for at in (1, 2, 3):
            for parcel in wrong:
                self.bad(with_at(FULL, at, parcel), at)
                self.bad(closed(*with_at(FULL, at, parcel)[:-1]), at)
                self.bad(with_at(FULL, at, parcel)[:at + 1], at)
            # In a full stream no key is gone.
            self.bad(closed(*with_at(FULL, at, FULL[at][:2])[:-1]), at)
        for key in (7, 8, 0):
            self.bad(closed(*FULL[:2], (2, key, 6, 1), (2, min(key, 8), 1, 1, 0)), 2 if key == 0 else 3)
        for parcel in (*wrong, (2, 8, *[1] * 17)):
            self.bad(closed((1, 7, 4, 7, 7, 1), parcel), 1)
        self.assertEqual(checked(closed((1, 7, 4, 7, 7, 1), (2, 8)))[2], [(8, ())])

    def test_the_last_parcel(self):
        for parcel in ((), (3,), (2, 490), (3, 490, 0), (1, 490), (3, -1), (3, M), (4, 490), (2, 490, 1)):
            self.bad(with_at(FULL, 4, parcel), 4)
        for stream in (FULL, BASED):
            for check_told in (0, M - 1, stream[-1][1] + 1, stream[-1][1] - 1):
                self.bad((*stream[:-1], (3, check_told)), len(stream) - 1)

    def test_left_out(self):
        for many in range(5):
            self.bad(FULL[:many], many)
        for at, index in ((0, 0), (1, 3), (2, 3), (3, 3), (4, 4)):
            self.bad((*FULL[:at], *FULL[at + 1:]), index)

    def test_doubled_and_one_more(self):
        for at, index in ((0, 1), (1, 2), (2, 3), (3, 4), (4, 5)):
            self.bad((*FULL[:at + 1], *FULL[at:]), index)
        for more in ((), (3, 490), (3, 1), (2, 9, 1), (M,)):
            self.bad((*FULL, more), 5)
            self.bad((*BASED, more), 3)
        # One that follows is told ahead of a wrong check.
        self.bad((*FULL[:-1], (3, 491), (3, 490)), 5)

    def test_exchanged(self):
        told = {(1, 2): 2, (1, 3): 2, (2, 3): 3, (1, 4): 1, (2, 4): 2, (3, 4): 3}
        for one, other in [*told, (0, 1), (0, 2), (0, 3), (0, 4)]:
            stream = list(FULL)
            stream[one], stream[other] = stream[other], stream[one]
            self.bad(tuple(stream), told.get((one, other), 0))

    def test_one_number_changed(self):
        for stream in (FULL, BASED):
            for at, parcel in enumerate(stream):
                for place, number in enumerate(parcel):
                    for by in (1, -1, 5):
                        changed = (*parcel[:place], number + by, *parcel[place + 1:])
                        told = refusal(checked, with_at(stream, at, changed))
                        self.assertEqual(told[0], "BadStream", (at, place, by))
                        self.assertIn(told[1], (at, at + 1, len(stream) - 1, len(stream) - 2, len(stream)))

    def test_what_is_first_wrong_goes_ahead_of_the_check(self):
        self.bad(((1, 0, 0, 7, 4, 2), *FULL[1:]), 3)
        self.bad(((1, 0, 0, 7, 4, 4), *FULL[1:]), 4)
        self.bad(with_at(with_at(FULL, 3, (2, 7, 1)), 4, (3, 0)), 3)

    def test_the_empty_stream(self):
        for stream in ((), []):
            self.assertEqual(refusal(checked, stream), ("BadStream", 0))

    def test_arguments_and_results_are_apart(self):
        stream = [list(parcel) for parcel in FULL]
        told = checked(stream)
        stream[1][2] = 9
        self.assertEqual(told[2][0], (0, (2, 0)))
        told[2].clear()
        self.assertEqual(checked(FULL)[2], [(0, (2, 0)), (7, (6, 1)), (8, (1, 1, 0))])
        stream = [list(parcel) for parcel in FULL]
        checked(stream)
        self.assertEqual(stream, [list(parcel) for parcel in FULL])

    def test_a_clone_sends_what_its_origin_has(self):
        pool = example_pool(snap=True)
        clone(pool, "a@s", "b")
        snapshot(pool, "b", "x")
        self.assertEqual(sent(pool, "b@x")[1:4], FULL[1:4])
        self.assertEqual(sent(pool, "b@x", base="a@s"), closed((1, 7, 4, 7, 6, 0)))


if __name__ == "__main__":
    unittest.main()
