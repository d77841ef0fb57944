"""What the tests of all readers of lines share."""

from bornroots.mount import made_pool, mount

from pools import all_seen, example_pool
from refusals import OFF, refusal

# Every first word with as many words as its call takes, at least and at most (None: no bound), by the reader.
FIRST_WORDS = {
    "files": {"make_folder": (2, 2), "make_file": (2, 2), "link": (3, 3), "unlink": (2, 2), "move": (3, 3),
              "write": (3, None), "cut_to": (3, 3), "read": (4, 4), "names": (2, 2), "told": (2, 2), "commit": (0, 1)},
    "roots": {"make_volume": (1, 2), "set_quota": (2, 2), "destroy": (1, 1), "snapshot": (2, 2), "clone": (2, 3),
              "rollback": (1, 1), "drop": (1, 1), "promote": (1, 1), "rewind": (0, 0)},
    "rooms": {"room": (0, 0), "free_cells": (0, 0), "referred": (1, 1), "written": (1, 1), "unique": (1, 1),
              "freed_by": (0, None), "used": (1, 1), "least_drops": (2, 2)},
    "care": {"scrub": (0, 0), "off": (1, 1), "on": (1, 1), "hits": (1, 1), "holders": (1, 1)},
}
NO_NUMBERS = ("01", "00", "007", "+1", "-1", "1.", "1.0", "0x1", "1e2", "1_0", "1000000", "0000000", "a", "\u0661",
              "\u00b2", "1a", "\t1", "1\n", "always", "None", "()")
OTHER_WORDS = ("sent", "receive", "touched", "differ", "joined", "checked", "mount", "salvage", "letgo_paper", "Commit",
               "ROOM", "scrubs", "said", "\trewind", "room\n", "commit\t", "0", "words_of", "__doc__", "print")


class Reader:
    """The tests of one reader, beside a Case that tells says, kind and good, a line that ends with a number."""

    says = kind = good = None

    def bad(self, pool, line):
        self.refused(pool, ("BadLine", line), self.read_line, line)

    def read_line(self, pool, line):
        return type(self).says(pool, line)

    def gives(self, pool, line, expected):
        self.assertEqual(self.read_line(pool, line), expected, line)

    def test_forms(self):
        pool = example_pool(many=2, written=True)
        for line in ("", " ", "  ", " " + self.good, self.good + " ", "  " + self.good, self.good + "  ",
                     self.good.replace(" ", "  "), self.good + "\t", "\n" + self.good):
            self.bad(pool, line)
        for kind, words in FIRST_WORDS.items():
            for word in words:
                if kind != self.kind:
                    for more in ("", " a", " a /f", " a /f 1", " 41"):
                        self.bad(pool, word + more)
        for word in OTHER_WORDS:
            for more in ("", " a", " a /f"):
                self.bad(pool, word + more)

    def test_numbers_of_words(self):
        """Too few and too many words; 5 does for a number, and for a word that the call refuses."""
        for first, (least, most) in FIRST_WORDS[self.kind].items():
            for many in range(6):
                pool = example_pool(many=2, written=True)
                line = " ".join([first, *["5"] * many])
                if many < least or most is not None and many > most:
                    self.bad(pool, line)
                else:
                    told = refusal(self.read_line, pool, line)
                    if line == "commit 5":
                        self.assertEqual(told, ("BadLine", line))
                    else:
                        self.assertTrue(told is None or told[0] != "BadLine", line)

    def test_off(self):
        for end in (lambda drives: drives.cut(), mount, made_pool):
            pool = example_pool(snap=True)
            end(pool.drives)
            for line in ("", " ", "nothing", self.good, self.good + " ", *FIRST_WORDS[self.kind]):
                before = all_seen(pool)
                self.assertEqual(refusal(self.read_line, pool, line), OFF)
                self.assertEqual(all_seen(pool), before)

    def check_numbers(self, *heads):
        """Each word that is no number, behind each of these begins of a line."""
        pool = example_pool(many=2, written=True)
        for head in heads:
            for word in NO_NUMBERS:
                self.bad(pool, head.replace("N", word) if "N" in head else f"{head} {word}")
