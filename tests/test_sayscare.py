import unittest

from bornroots.commit import commit
from bornroots.desk import write
from bornroots.faults import rot
from bornroots.sayscare import says_care

from pools import example_pool
from rootdeeds import Case
from says import Reader


class CareTest(Reader, Case):
    says, kind, good = says_care, "care", "hits 41"

    def test_every_line(self):
        pool = example_pool(many=2, snap=True)
        self.gives(pool, "off 1", "None")
        write(pool, "a", "/f", 0, [5])
        commit(pool)
        for line, expected in (
                ("on 1", "(11, 12, 42, 43, 44, 51, 52)"), ("hits 43", "(('a', 9, 9),)"), ("hits 53", "()"),
                ("hits 41", "(('a', 0, 0), ('a@s', 0, 0))"), ("holders 45", "(45, 3, 7, 3, 2, (1, 2))"),
                ("holders 44", "(44, 5, 8, 2, 1, (1,))"), ("holders 53", "None"), ("scrub", "((), ())")):
            self.gives(pool, line, expected)
        rot(pool.drives, 0, 45, 0, 1)
        rot(pool.drives, 0, 47, 0, 1)
        rot(pool.drives, 1, 47, 0, 1)
        self.gives(pool, "scrub", "(((45, 0),), (47,))")

    def test_numbers(self):
        self.check_numbers("off", "on", "hits", "holders")

    def test_the_refusals_of_the_calls(self):
        pool = example_pool(many=2, written=True)
        for line, expected in (("off 2", ("BadNumber", 2)), ("on 3", ("BadNumber", 3)), ("on 0", ("AlreadyOn", 0)),
                               ("hits 40", ("BadNumber", 40)), ("hits 81", ("BadNumber", 81)),
                               ("holders 0", ("BadNumber", 0)), ("holders 999999", ("BadNumber", 999999))):
            self.refused(pool, expected, says_care, line)
        self.gives(pool, "off 0", "None")
        self.refused(pool, ("AlreadyOff", 0), says_care, "off 0")
        self.refused(pool, ("LastDrive", 1), says_care, "off 1")


if __name__ == "__main__":
    unittest.main()
