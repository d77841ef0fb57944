import unittest

from bornroots.desk import write
from bornroots.mount import made_pool
from bornroots.drives import Drives
from bornroots.saysroots import says_roots

from pools import contents, example_pool, head_root
from rootdeeds import Case
from says import Reader


class RootsTest(Reader, Case):
    says, kind, good = says_roots, "roots", "set_quota a 0"

    def test_every_line(self):
        pool = example_pool(written=True)
        for line, expected in (
                ("make_volume b", "3"), ("make_volume c 4", "4"), ("set_quota c 100", "None"), ("destroy b", "4"),
                ("snapshot a t", "5"), ("clone a@s b", "6"), ("clone a@t d 7", "7"), ("rollback d", "0"),
                ("promote b", "None"), ("drop b@s", None), ("destroy d", "0"), ("drop a@t", "0"), ("rewind", "17"),
                ("rewind", "18"), ("set_quota a 0", "None")):
            if expected is None:
                self.refused(pool, ("Cloned", "b@s"), says_roots, line)
            else:
                self.gives(pool, line, expected)
        self.assertEqual(sorted(contents(pool)), ["a", "b", "b@s", "c"])
        quotas = {volume.name: volume.quota for volume in pool.root.book.volumes.values()}
        self.assertEqual(quotas, {"a": 0, "b": 0, "c": 100})

    def test_the_examples_of_9(self):
        for line, expected in (("drop a@s", "4"), ("rollback a", "5")):
            self.gives(example_pool(written=True), line, expected)
        pool = example_pool(snap=True)
        write(pool, "a", "/f", 0, [5])
        self.gives(pool, "rewind", "6")

    def test_quotas_that_are_left_out(self):
        pool = example_pool(written=True)
        self.gives(pool, "clone a@s b", "3")
        self.gives(pool, "clone a@s c 9", "4")
        self.assertEqual([pool.root.book.volumes[head_root(pool, vol).ident].quota for vol in "bc"], [0, 9])

    def test_numbers(self):
        self.check_numbers("make_volume b", "set_quota a", "clone a@s b")
        pool = example_pool(written=True)
        for line, expected in (("make_volume b 1001", ("BadNumber", 1001)),
                               ("set_quota a 999999", ("BadNumber", 999999)),
                               ("clone a@s b 1001", ("BadNumber", 1001)), ("make_volume b 3", ("Quota", "b")),
                               ("set_quota a 11", ("Quota", "a"))):
            self.refused(pool, expected, says_roots, line)

    def test_the_refusals_of_the_calls(self):
        pool = example_pool(written=True)
        for line, expected in (("make_volume A", ("BadName", "A")), ("make_volume a", ("Taken", "a")),
                               ("destroy a", ("HasSnaps", "a")), ("snapshot a s", ("Taken", "s")),
                               ("snapshot a S", ("BadName", "S")), ("clone a b", ("NoSnap", "a")),
                               ("drop a@t", ("NoRoot", "a@t")), ("drop a", ("NoSnap", "a")),
                               ("promote a", ("NotClone", "a")), ("rollback b", ("NoVolume", "b")),
                               ("drop a@", ("BadName", "a@")), ("destroy a\n", ("BadName", "a\n"))):
            self.refused(pool, expected, says_roots, line)
        self.refused(made_pool(Drives(1, 8)), ("NoElder", 1), says_roots, "rewind")


if __name__ == "__main__":
    unittest.main()
