"""The faults of drives (point 2 of the document)."""

from bornroots.bounds import need_within
from bornroots.errors import NotGood
from bornroots.rows import MODULUS, is_good


def rot(drives, drive, place, at, by):
    """Change one number of the good row in a cell."""
    row = drives.cell(drive, place)
    need_within(by, 1, MODULUS - 1)
    if not is_good(row):
        raise NotGood(place)
    need_within(at, 0, len(row) - 1)
    rotted = list(row)
    rotted[at] = (rotted[at] + by) % MODULUS
    drives.lay(drive, place, tuple(rotted))


def lose(drives, drive, place):
    """Let the next write to a cell land nothing."""
    drives.await_fault(drive, place, None)


def stray(drives, drive, place, other):
    """Let the next write to a cell land in another cell of the same drive."""
    drives.await_fault(drive, place, other)


def wipe(drives, drive):
    """Empty a drive, and take away all faults that it awaits."""
    drives.blank(drive)
