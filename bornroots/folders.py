"""The entries of folders (point 5 of the document)."""

from bornroots.keys import key_of
from bornroots.namecodes import name_number, name_of

BUCKETS = 7
BUCKET_ENTRIES = 8


def bucket_of(name):
    """The place of a folder's node in which the entry of this name stands."""
    return 1 + name_number(name) % BUCKETS


def entry_of(records, node, name):
    """The node to which the entry of this name leads, or None."""
    for told, target in _entries_in(records, node, bucket_of(name)):
        if told == name:
            return target
    return None


def names_in(records, node):
    """The list of the names of a folder's entries, ascending as texts."""
    names = []
    for place in range(1, 1 + BUCKETS):
        names.extend([entry[0] for entry in _entries_in(records, node, place)])
    return sorted(names)


def is_full(records, node, name):
    """Whether the bucket of this name has no room for another entry."""
    return len(_entries_in(records, node, bucket_of(name))) >= BUCKET_ENTRIES


def with_entry(records, node, name, target):
    """New records with one entry more."""
    place = bucket_of(name)
    entries = _entries_in(records, node, place)
    return _with_bucket(records, node, place, [*entries, (name, target)])


def without_entry(records, node, name):
    """New records without the entry of this name."""
    place = bucket_of(name)
    entries = [entry for entry in _entries_in(records, node, place) if entry[0] != name]
    return _with_bucket(records, node, place, entries)


def _entries_in(records, node, place):
    record = records.get(key_of(node, place), ())
    return [(name_of(record[at]), record[at + 1]) for at in range(0, len(record), 2)]


def _with_bucket(records, node, place, entries):
    bucket = key_of(node, place)
    told = {key: records[key] for key in records if key != bucket}
    record = []
    for name, target in sorted(entries):
        record.extend((name_number(name), target))
    if record:
        told[bucket] = tuple(record)
    return told
