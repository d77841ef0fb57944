"""The rows of the log, one for each open deed (points 7.1 and 8.2 of the document)."""

from bornroots.layout import LOGS, log_place
from bornroots.rows import LOG, made_row, payload_of
from bornroots.treeplan import unlike_keys


def log_row(number, i, head, old, new):
    """The row of the deed that makes the old records the new ones, i deeds being open ahead of it."""
    keys = unlike_keys(old, new)
    payload = [i, head, len(keys)]
    for key in keys:
        record = new.get(key, ())
        payload.extend((key, len(record), *record))
    return made_row(LOG, log_place(i), number, payload)


def log_told(row):
    """What a row tells: (i, head, tuple of pairs (key, record)), the record () for a key that is gone."""
    i, head, many, *numbers = payload_of(row)
    told = []
    at = 0
    for _ in range(many):
        begin = at + 2
        end = begin + numbers[at + 1]
        told.append((numbers[at], tuple(numbers[begin:end])))
        at = end
    return (i, head, tuple(told))


def put_log(pool, head, old, new):
    """Put the row of the next open deed, and flush it."""
    i = len(pool.opened)
    pool.drives.put(log_place(i), log_row(pool.root.number, i, head, old, new))
    pool.drives.flush()


def log_found(drives, number):
    """The list of (head, tuple of pairs (key, record)) of the first rows that fit, up to one that fits nowhere."""
    found = []
    for i in range(LOGS):
        drive = drives.fitting(LOG, log_place(i), number)
        if drive is None:
            return found
        _, head, told = log_told(drives.cell(drive, log_place(i)))
        found.append((head, told))
    return found


def has_log(drives, number):
    """Whether a row of the log fits on any drive."""
    return any(drives.fitting(LOG, log_place(i), number) is not None for i in range(LOGS))
