"""Keys, and the blocks above them (point 4 of the document)."""

from bornroots.bounds import need_within

KEYS = 512
NODES = 64
# How many keys a node has, and how many children a branch.
FAN = 8
# How many keys lie beneath a block of each level.
WIDTHS = (512, 64, 8, 1)


def block_of(level, key):
    """The number of the block of this level whose stretch has the key."""
    _need_level(level)
    _need_key(key)
    return key // WIDTHS[level]


def stretch_of(level, number):
    """The least and the greatest key beneath a block."""
    _need_level(level)
    width = WIDTHS[level]
    need_within(number, 0, KEYS // width - 1)
    return (width * number, width * number + width - 1)


def node_of(key):
    """The node to which a key belongs."""
    _need_key(key)
    return key // FAN


def key_of(node, place):
    """The key of a place of a node."""
    need_within(node, 0, NODES - 1)
    need_within(place, 0, FAN - 1)
    return FAN * node + place


def _need_level(level):
    need_within(level, 0, len(WIDTHS) - 1)


def _need_key(key):
    need_within(key, 0, KEYS - 1)
