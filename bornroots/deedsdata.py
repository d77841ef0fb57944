"""The deeds that write values and cut files (point 6 of the document)."""

from bornroots.bounds import need_within
from bornroots.errors import TooLong
from bornroots.filevalues import MOST_VALUES, need_index, values_of, with_values_of
from bornroots.paths import names_of
from bornroots.walkpath import walk_file

MOST_WRITTEN = 16
MOST_VALUE = 999


def with_values(records, path, at, values):
    """New records in which the file has these values from index at on."""
    names_of(path)
    need_span(at, values)
    node = walk_file(records, path)
    if at + len(values) > MOST_VALUES:
        raise TooLong(path)
    told = values_of(records, node)
    told.extend([0] * (at - len(told)))
    told[at:at + len(values)] = list(values)
    return with_values_of(records, node, told)


def with_length(records, path, length):
    """New records in which the file has this length."""
    names_of(path)
    need_length(length)
    node = walk_file(records, path)
    told = values_of(records, node)
    told.extend([0] * (length - len(told)))
    return with_values_of(records, node, told[:length])


def need_span(at, values):
    """Raise BadNumber of the first that is beyond its bounds: at, how many values, a value."""
    need_index(at)
    need_within(len(values), 1, MOST_WRITTEN)
    for value in values:
        need_within(value, 0, MOST_VALUE)


def need_length(length):
    """Raise BadNumber(length) unless a file may have this length."""
    need_within(length, 0, MOST_VALUES)
