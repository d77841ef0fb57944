"""The values of files, and the bounds of what is told of them (points 5 and 6 of the document)."""

from bornroots.bounds import need_within
from bornroots.keys import FAN, key_of
from bornroots.nodes import head_of

MOST_VALUES = 56
PLACE_VALUES = 8


def need_index(at):
    """Raise BadNumber(at) unless a file may have a value with this index."""
    need_within(at, 0, MOST_VALUES - 1)


def values_of(records, node):
    """The list of the values of a file, as many as its length tells."""
    values = []
    for place in range(1, FAN):
        values.extend(records.get(key_of(node, place), (0,) * PLACE_VALUES))
    return values[:head_of(records, node)[2]]


def with_values_of(records, node, values):
    """New records in which a file has just the values of this list."""
    told = {key: records[key] for key in records}
    kind, links, _ = head_of(records, node)
    told[key_of(node, 0)] = (kind, links, len(values))
    padded = values + [0] * (MOST_VALUES - len(values))
    for place in range(1, FAN):
        begin = PLACE_VALUES * (place - 1)
        record = tuple(padded[begin:begin + PLACE_VALUES])
        if any(record):
            told[key_of(node, place)] = record
        else:
            told.pop(key_of(node, place), None)
    return told
