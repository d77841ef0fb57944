import unittest

from bornroots.desk import cut_to, make_file, unlink, write
from bornroots.drives import Drives
from bornroots.joins import joined
from bornroots.mount import made_pool
from bornroots.parcels import checked, sent
from bornroots.receiving import receive
from bornroots.snapshots import snapshot
from bornroots.volumes import make_volume

from pools import contents
from refusals import refusal
from test_parcels import BASED, FULL, closed
from test_touched import sent_pool


def row_pool():
    """A pool with the snapshots s, t, u, v of a volume a, between which keys came, changed and went."""
    pool = made_pool(Drives(1, 200), tag=5)
    make_volume(pool, "a")
    make_file(pool, "a", "/f")
    write(pool, "a", "/f", 0, [1])
    snapshot(pool, "a", "s")
    make_file(pool, "a", "/g")
    write(pool, "a", "/g", 9, [3])
    cut_to(pool, "a", "/f", 0)
    snapshot(pool, "a", "t")
    unlink(pool, "a", "/g")
    write(pool, "a", "/f", 0, [2])
    snapshot(pool, "a", "u")
    unlink(pool, "a", "/f")
    make_file(pool, "a", "/h")
    snapshot(pool, "a", "v")
    return pool


class JoinedTest(unittest.TestCase):
    def test_the_example(self):
        told = ((1, 0, 0, 7, 7, 3), (2, 0, 2, 0), (2, 7, 6, 1), (2, 8, 1, 1, 0), (3, 505))
        self.assertEqual(joined(FULL, BASED), told)
        self.assertEqual(joined([list(parcel) for parcel in FULL], list(BASED)), told)
        self.assertEqual({type(told), *map(type, joined(list(FULL), BASED))}, {tuple})

    def test_the_row_of_two_if_it_has_one(self):
        one = closed((1, 7, 4, 7, 5, 3), (2, 0, 2, 0), (2, 3), (2, 9, 4, 4))
        two = closed((1, 7, 5, 8, 6, 3), (2, 3, 7), (2, 8, 1), (2, 9))
        self.assertEqual(joined(one, two),
                         closed((1, 7, 4, 8, 6, 4), (2, 0, 2, 0), (2, 3, 7), (2, 8, 1), (2, 9)))
        self.assertEqual(joined(two, closed((1, 8, 6, 8, 7, 1), (2, 8))),
                         closed((1, 7, 5, 8, 7, 3), (2, 3, 7), (2, 8), (2, 9)))

    def test_rows_of_gone_keys_in_a_full_stream(self):
        two = closed((1, 7, 4, 7, 5, 4), (2, 7), (2, 8), (2, 9), (2, 511, 3))
        self.assertEqual(joined(FULL, two), closed((1, 0, 0, 7, 5, 2), (2, 0, 2, 0), (2, 511, 3)))
        self.assertEqual(joined(FULL, closed((1, 7, 4, 7, 5, 3), (2, 0), (2, 7), (2, 8))), closed((1, 0, 0, 7, 5, 0)))
        # With a base they stay, whether they come of one or of two.
        one = closed((1, 7, 4, 7, 5, 2), (2, 7), (2, 9))
        self.assertEqual(joined(one, closed((1, 7, 5, 7, 6, 1), (2, 8))),
                         closed((1, 7, 4, 7, 6, 3), (2, 7), (2, 8), (2, 9)))

    def test_the_first_may_be_empty_and_the_second(self):
        nothing = closed((1, 7, 4, 7, 4, 0))
        self.assertEqual((joined(FULL, nothing), joined(nothing, nothing)), (FULL, nothing))
        self.assertEqual(joined(nothing, closed((1, 7, 4, 7, 7, 1), (2, 8, 1, 1, 0))), BASED)

    def test_refusals_in_their_order(self):
        wrong_check = (*BASED[:-1], (3, 194))
        for one, two, expected in (((), (), 0), (FULL[:-1], (), 4), (FULL, (), 0), (FULL, wrong_check, 2),
                                   (BASED, wrong_check, 2), (wrong_check, FULL, 2), ((*FULL, (3, 1)), BASED, 5)):
            self.assertEqual(refusal(joined, one, two), ("BadStream", expected))
        other = closed((1, 7, 5, 7, 7, 1), (2, 8, 1, 1, 0))
        for one, two in ((FULL, FULL), (BASED, FULL), (BASED, BASED), (FULL, other), (BASED, other),
                         (FULL, closed((1, 8, 4, 7, 7, 0)))):
            self.assertEqual(refusal(joined, one, two), ("NoBase", 0))

    def test_streams_of_a_pool(self):
        pool, names = row_pool(), "stuv"
        streams = {(one, two): sent(pool, "a@" + two, base="a@" + one) for one in names for two in names if one < two}
        full = {name: sent(pool, "a@" + name) for name in names}
        for one, two in streams:
            self.assertEqual(joined(full[one], streams[one, two]), full[two])
            for three in names:
                if two < three:
                    told = joined(streams[one, two], streams[two, three])
                    # All that the way around touched is told; what came and went there is told as gone.
                    self.assertTrue(set(streams[one, three][1:-1]) <= set(told[1:-1]))
                    self.assertEqual(told[0][1:5], streams[one, three][0][1:5])
                    self.assertEqual(joined(full[one], told), full[three])

    def test_three_in_either_order(self):
        pool = row_pool()
        for first in (sent(pool, "a@s"), sent(pool, "a@s", base="a@s")):
            parts = [first, sent(pool, "a@t", base="a@s"), sent(pool, "a@u", base="a@t"),
                     sent(pool, "a@v", base="a@u")]
            one, two, three, four = parts
            told = joined(joined(joined(one, two), three), four)
            self.assertEqual(joined(one, joined(two, joined(three, four))), told)
            self.assertEqual(joined(joined(one, joined(two, three)), four), told)
            self.assertEqual(joined(joined(one, two), joined(three, four)), told)
        taker = made_pool(Drives(1, 60))
        receive(taker, sent(pool, "a@s"), "a", "s")
        receive(taker, told, "a", "v")
        self.assertEqual(contents(taker)["a@v"], contents(pool)["a@v"])

    def test_what_is_handed_in_stays(self):
        one, two = [list(parcel) for parcel in FULL], [list(parcel) for parcel in BASED]
        joined(one, two)
        self.assertEqual((checked(one), checked(two)), (checked(FULL), checked(BASED)))
        pool = sent_pool()
        self.assertEqual(joined(sent(pool, "a@s"), sent(pool, "a@u", base="a@s")), sent(pool, "a@u"))


if __name__ == "__main__":
    unittest.main()
