"""The reader of lines on files (point 14 of the document)."""

from bornroots.commit import commit
from bornroots.desk import cut_to, link, make_file, make_folder, move, unlink, write
from bornroots.sayswords import said
from bornroots.views import names, read, told


def says_files(pool, line):
    """Make the call of a line, and tell repr of its result."""
    return said(pool, line, {
        "make_folder": (make_folder, "VOL PATH"),
        "make_file": (make_file, "VOL PATH"),
        "link": (link, "VOL PATH OTHER"),
        "unlink": (unlink, "VOL PATH"),
        "move": (move, "VOL PATH OTHER"),
        "write": (write, "VOL PATH AT VALUES.."),
        "cut_to": (cut_to, "VOL PATH LENGTH"),
        "read": (read, "ROOT PATH AT MANY"),
        "names": (names, "ROOT PATH"),
        "told": (told, "ROOT PATH"),
        "commit": (_commit, "[always]"),
    })


def _commit(pool, always=False):
    return commit(pool, always=always)
