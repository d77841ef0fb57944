"""Trees of records, and which blocks a change makes new (point 4 of the document)."""

from bornroots.errors import NoRoom
from bornroots.keys import FAN, WIDTHS, stretch_of
from bornroots.rows import BRANCH, LEAF, made_row

TOP = (0, 0)
NO_PAIR = (0, 0)
LEAVES = 3


class Tree:
    """The pair of each block (level, number) that is there, and the records; it is not changed once it is made."""

    def __init__(self, places, records):
        self.places = {block: places[block] for block in places}
        self.records = {key: records[key] for key in records}

    def top(self):
        """The top pair, (0, 0) without blocks."""
        return self.places.get(TOP, NO_PAIR)

    def pairs(self):
        """The list of all pairs, ascending."""
        return sorted(self.places.values())


def unlike_keys(old, new):
    """The ascending list of the keys whose records are not equal, or are in only one of both."""
    return [key for key in sorted(set(old) | set(new)) if old.get(key) != new.get(key)]


def changed(tree, records):
    """The new blocks in the order of writing, and the replaced pairs, where the tree's records become these."""
    touched = _blocks_above(unlike_keys(tree.records, records))
    there = _blocks_above(records)
    new = [block for block in touched if block in there]
    replaced = [tree.places[block] for block in touched if block in tree.places]
    return (sorted(new, key=_turn_of), sorted(replaced))


def grown(tree, records, cells, number):
    """The tree of these records, and the list of (place, row) of its new blocks in the order of writing."""
    new = changed(tree, records)[0]
    if len(cells) < len(new):
        raise NoRoom(len(new))
    there = _blocks_above(records)
    places = {block: tree.places[block] for block in tree.places if block in there}
    for block, cell in zip(new, cells):
        places[block] = (cell, number)
    rows = [(places[block][0], _row_of(block, places, records)) for block in new]
    return (Tree(places, records), rows)


def size_of(records):
    """How many blocks the tree of these records has."""
    return len(_blocks_above(records))


def block_in(tree, address):
    """The block (level, number) that a tree has in this cell, or None."""
    for block in tree.places:
        if tree.places[block][0] == address:
            return block
    return None


def kind_of(level):
    """The kind of the rows of the blocks of a level."""
    return LEAF if level == LEAVES else BRANCH


def children_of_block(level, number):
    """The list of the eight blocks that may stand beneath a branch."""
    return [(level + 1, child) for child in range(FAN * number, FAN * number + FAN)]


def _blocks_above(keys):
    # A dict, for a set could not be passed on; its order is that of the keys.
    return {(level, key // width): True for key in keys for level, width in enumerate(WIDTHS)}


def _turn_of(block):
    # Children come ahead of their parents: of blocks that end with the same key the lower one is first.
    level, number = block
    return (stretch_of(level, number)[1], -level)


def _row_of(block, places, records):
    level, at = block
    address, birth = places[block]
    if level == LEAVES:
        return made_row(LEAF, address, birth, records[at])
    payload = []
    for child in children_of_block(level, at):
        payload.extend(places.get(child, NO_PAIR))
    return made_row(BRANCH, address, birth, payload)
