"""Rows: what a cell of a drive holds (point 1 of the document)."""

MODULUS = 1000003

HEAD = 1
PAGE = 2
LOG = 3
BRANCH = 4
LEAF = 5


def check_of(numbers):
    """The sum of i times the i-th number, i from 1, modulo MODULUS."""
    total = 0
    for i, number in enumerate(numbers, start=1):
        total += i * number
    return total % MODULUS


def made_row(kind, place, number, payload):
    """The good row of these numbers."""
    ahead = (kind, place, number, len(payload), *payload)
    return (*ahead, check_of(ahead))


def is_good(row):
    """Whether the numbers are a whole row with the right count and check."""
    return len(row) >= 5 and row[3] == len(row) - 5 and row[-1] == check_of(row[:-1])


def fits(row, kind, place, number=None):
    """Whether the row is good and of this kind, place and number (None: any number)."""
    if not is_good(row):
        return False
    return row[0] == kind and row[1] == place and number in (None, row[2])


def half_of(row):
    """The first half of a row: what a write that power left halfway leaves."""
    return tuple(row[: len(row) // 2])


def payload_of(row):
    """The payload of a good row."""
    return tuple(row[4:-1])
