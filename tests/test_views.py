import unittest

from bornroots.commit import commit
from bornroots.desk import cut_to, make_file, make_folder, unlink, write
from bornroots.drives import Drives
from bornroots.mount import made_pool, mount
from bornroots.snapshots import clone, snapshot
from bornroots.views import names, read, told
from bornroots.volumes import make_volume

from pools import all_seen
from records import NO_PATHS
from refusals import OFF, refusal

NO_ROOTS = ("", "@", "a@", "@s", "a@s@t", "a @s", "abcde", "a@abcde", "A", "a@S", None, 7)
LOOKS = ((read, 0, 56), (names,), (told,))


def some_pool():
    """Volume a with the folder /d and the file /d/f of the values 1, 2; its snapshot s; behind it /g and 1, 3."""
    pool = made_pool(Drives(1, 100))
    make_volume(pool, "a")
    make_folder(pool, "a", "/d")
    make_file(pool, "a", "/d/f")
    write(pool, "a", "/d/f", 0, [1, 2])
    snapshot(pool, "a", "s")
    make_file(pool, "a", "/g")
    write(pool, "a", "/d/f", 1, [3])
    return pool


class LookTest(unittest.TestCase):
    def check(self, pool, root, values, listed):
        self.assertEqual(read(pool, root, "/d/f", 0, 56), values)
        self.assertEqual(names(pool, root, "/"), listed)
        self.assertEqual(told(pool, root, "/d/f"), ("file", 2, 1, len(values)))
        self.assertEqual(told(pool, root, "/d"), ("folder", 1))

    def test_heads_see_open_deeds_and_snapshots_do_not(self):
        pool = some_pool()
        for _ in range(2):
            self.check(pool, "a", [1, 3], ["d", "g"])
            self.check(pool, "a@s", [1, 2], ["d"])
            self.assertEqual(refusal(told, pool, "a@s", "/g"), ("NoName", "/g"))
            commit(pool)

    def test_each_head_sees_its_own_open_deeds(self):
        pool = some_pool()
        clone(pool, "a@s", "b")
        cut_to(pool, "b", "/d/f", 5)
        unlink(pool, "a", "/g")
        self.check(pool, "b", [1, 2, 0, 0, 0], ["d"])
        self.check(pool, "a", [1, 3], ["d"])
        self.check(pool, "a@s", [1, 2], ["d"])

    def test_windows(self):
        pool = some_pool()
        for at, many, values in ((0, 0, []), (0, 1, [1]), (1, 56, [3]), (2, 56, []), (55, 56, []), (55, 0, [])):
            self.assertEqual(read(pool, "a", "/d/f", at, many), values)

    def test_results(self):
        pool = some_pool()
        before = all_seen(pool)
        for look, path in ((lambda: read(pool, "a", "/d/f", 0, 56), "/d/f"), (lambda: names(pool, "a", "/"), "/")):
            result = look()
            self.assertIsInstance(result, list)
            kept = list(result)
            result.clear()
            self.assertEqual(look(), kept)
        self.assertIsInstance(told(pool, "a", "/"), tuple)
        self.assertEqual(all_seen(pool), before)


class RefusedTest(unittest.TestCase):
    def check(self, pool, look, root, path, expected, *window):
        before = all_seen(pool)
        self.assertEqual(refusal(look, pool, root, path, *window), expected)
        self.assertEqual(all_seen(pool), before)

    def test_off_ahead_of_all(self):
        for end in (lambda drives: drives.cut(), mount, made_pool, lambda drives: drives.start()):
            pool = some_pool()
            end(pool.drives)
            for look, *window in LOOKS:
                self.check(pool, look, "a", "/d", OFF, *window)
                self.check(pool, look, "A", "//", OFF, *[-1 for _ in window])

    def test_roots_texts_ahead_of_paths_ahead_of_numbers(self):
        pool = some_pool()
        for look, *window in LOOKS:
            for text in NO_ROOTS:
                self.check(pool, look, text, "//", ("BadName", text), *[-1 for _ in window])
            for root in ("a", "zz", "a@zz"):
                for path in NO_PATHS:
                    self.check(pool, look, root, path, ("BadPath", path), *[-1 for _ in window])

    def test_numbers_ahead_of_no_volume(self):
        pool = some_pool()
        for root in ("a", "zz", "a@zz"):
            for at, many, bad in ((-1, 57, -1), (56, 57, 56), (0, 57, 57), (55, -1, -1)):
                self.check(pool, read, root, "/none", ("BadNumber", bad), at, many)

    def test_no_volume_and_no_root_ahead_of_the_walk(self):
        pool = some_pool()
        for look, *window in LOOKS:
            self.check(pool, look, "b", "/none", ("NoVolume", "b"), *window)
            self.check(pool, look, "b@s", "/none", ("NoVolume", "b"), *window)
            self.check(pool, look, "a@t", "/none", ("NoRoot", "a@t"), *window)

    def test_what_the_records_refuse(self):
        pool = some_pool()
        for look, *window in LOOKS:
            for root in ("a", "a@s"):
                self.check(pool, look, root, "/none", ("NoName", "/none"), *window)
                self.check(pool, look, root, "/d/f/x", ("NotFolder", "/d/f/x"), *window)
        self.check(pool, read, "a", "/d", ("IsFolder", "/d"), 0, 0)
        self.check(pool, read, "a@s", "/", ("IsFolder", "/"), 0, 0)
        self.check(pool, names, "a", "/g", ("NotFolder", "/g"))


if __name__ == "__main__":
    unittest.main()
