"""What the tests of several root deeds share."""

import unittest

from bornroots.desk import write
from bornroots.mount import made_pool, mount
from bornroots.space import used_by

from pools import all_seen, check_pool, example_pool, head_root
from refusals import OFF, refusal

NO_NAMES = ("", "abcde", "A", "a1", "a@s", "/", None, 7)


def used_of(pool, vol):
    book = pool.root.book
    return used_by(pool.root, book.volumes[head_root(pool, vol).ident])


class Case(unittest.TestCase):
    def refused(self, pool, expected, deed, *given, **named):
        before = all_seen(pool)
        self.assertEqual(refusal(deed, pool, *given, **named), expected, (given, named))
        self.assertEqual(all_seen(pool), before)

    def off(self, deed, *given, **named):
        """The deed is refused with Off behind each end of a pool, whatever its arguments are."""
        for end in (lambda drives: drives.cut(), mount, made_pool):
            pool = example_pool(snap=True)
            end(pool.drives)
            self.refused(pool, OFF, deed, *given, **named)

    def behind_open(self, deed, *given, **named):
        """What a deed returns behind an open one, which is committed by a transaction of its own ahead of it."""
        pool = example_pool(snap=True)
        write(pool, "a", "/f", 0, [5])
        told = deed(pool, *given, **named)
        self.assertEqual((pool.root.number, pool.elder.number, pool.last, pool.opened), (6, 5, 6, []))
        self.assertEqual(pool.elder.trees[1].records[9], (5, 0, 0, 0, 0, 0, 0, 0))
        check_pool(self, pool)
        return pool, told

    def refused_behind_open(self, expected, deed, *given, **named):
        """With an open deed a refused one commits nothing."""
        pool = example_pool(snap=True)
        write(pool, "a", "/f", 0, [5])
        self.refused(pool, expected, deed, *given, **named)
        self.assertEqual(len(pool.opened), 1)
