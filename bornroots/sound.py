"""Whether records tell a tree of folders and files (point 6 of the document)."""

from bornroots.deedsdata import MOST_VALUE
from bornroots.filevalues import MOST_VALUES, PLACE_VALUES
from bornroots.folders import BUCKET_ENTRIES, bucket_of
from bornroots.keys import FAN, NODES
from bornroots.namecodes import is_name_number, name_of
from bornroots.nodes import FILE, FOLDER, head_of, is_folder


def is_sound(records):
    """Whether the records are sound."""
    nodes = sorted({key // FAN for key in records})
    if head_of(records, 0) != (FOLDER, 0) or not all(_is_head(head_of(records, node)) for node in nodes):
        return False
    if not all(_is_in_place(records, key) for key in records if key % FAN > 0):
        return False
    return _is_told_well(records, nodes) and all(_comes_to_top(records, node) for node in nodes)


def _is_head(record):
    if record is None:
        return False
    if record[0] == FILE:
        return len(record) == 3 and record[1] >= 1 and record[2] <= MOST_VALUES
    return len(record) == 2 and record[0] == FOLDER and record[1] < NODES


def _is_in_place(records, key):
    node = key // FAN
    if is_folder(records, node):
        return _is_bucket(records, records[key], key % FAN)
    return _is_data(records[key], key % FAN, head_of(records, node)[2])


def _is_bucket(records, record, place):
    numbers = record[::2]
    if len(record) % 2 == 1 or not 1 <= len(numbers) <= BUCKET_ENTRIES:
        return False
    if not all(is_name_number(number) for number in numbers):
        return False
    names = [name_of(number) for number in numbers]
    if not all(bucket_of(name) == place for name in names) or names != sorted(set(names)):
        return False
    return all(head_of(records, target) is not None for target in record[1::2])


def _is_data(record, place, length):
    if len(record) != PLACE_VALUES or not any(record) or not all(value <= MOST_VALUE for value in record):
        return False
    begin = PLACE_VALUES * (place - 1)
    return not any(record[max(0, length - begin):])


def _is_told_well(records, nodes):
    # From each node to the folders of the entries that lead to it, a folder as often as it has such entries.
    uppers = {node: [] for node in nodes}
    for key in records:
        if key % FAN > 0 and is_folder(records, key // FAN):
            for target in records[key][1::2]:
                uppers[target].append(key // FAN)
    return all(_has_its_entries(records, node, uppers[node]) for node in nodes)


def _has_its_entries(records, node, uppers):
    if node == 0:
        return not uppers
    if is_folder(records, node):
        return uppers == [head_of(records, node)[1]]
    return len(uppers) == head_of(records, node)[1]


def _comes_to_top(records, node):
    # Each folder stands in its parent by now, so only a ring of folders can keep a node from the top one.
    if not is_folder(records, node):
        return True
    for _ in range(NODES):
        if node == 0:
            return True
        node = head_of(records, node)[1]
    return False
