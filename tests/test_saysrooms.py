import unittest

from bornroots.drives import Drives
from bornroots.mount import made_pool
from bornroots.roomtold import free_cells
from bornroots.saysrooms import says_rooms

from pools import example_pool
from rootdeeds import Case
from says import Reader
from test_intervals import random_pool


class RoomsTest(Reader, Case):
    says, kind, good = says_rooms, "rooms", "least_drops a 4"

    def test_every_line(self):
        pool = example_pool(written=True)
        for line, expected in (
                ("room", "(12, 0, 28)"), ("free_cells", repr(free_cells(pool))), ("referred a@s", "7"),
                ("referred a", "8"), ("written a@s", "7"), ("written a", "5"), ("unique a@s", "4"), ("unique a", "5"),
                ("freed_by", "0"), ("freed_by a", "5"), ("freed_by a@s a", "12"), ("freed_by a a a@s a", "12"),
                ("used a", "12"), ("least_drops a 4", "(1, ('s',))"), ("least_drops a 5", "None"),
                ("least_drops a 0", "(0, ())"), ("least_drops a 999999", "None")):
            self.gives(pool, line, expected)
        self.gives(made_pool(Drives(1, 8)), "free_cells", "(41, 42, 43, 44, 45, 46, 47, 48)")

    def test_numbers(self):
        self.check_numbers("least_drops a", "least_drops b")

    def test_the_refusals_of_the_calls(self):
        pool = example_pool(written=True)
        for line, expected in (("referred @", ("BadName", "@")), ("written b", ("NoVolume", "b")),
                               ("unique a@t", ("NoRoot", "a@t")), ("freed_by a b a@t", ("NoVolume", "b")),
                               ("freed_by a b @", ("BadName", "@")), ("used a@s", ("BadName", "a@s")),
                               ("least_drops b 0", ("NoVolume", "b")), ("least_drops A 0", ("BadName", "A"))):
            self.refused(pool, expected, says_rooms, line)
        self.refused(random_pool(1, 11), ("TooMany", 10), says_rooms, "least_drops a 0")


if __name__ == "__main__":
    unittest.main()
