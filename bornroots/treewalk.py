"""Trees read back from drives (point 4 of the document)."""

from bornroots.keys import stretch_of
from bornroots.layout import FIRST_TREE
from bornroots.rows import payload_of
from bornroots.treeplan import LEAVES, NO_PAIR, TOP, Tree, children_of_block, kind_of


def walked(drives, top, *, only=None):
    """The tree of the blocks that are reached from a top pair, and the list of the lost ones (address, lo, hi)."""
    places = {}
    records = {}
    lost = []
    waiting = [(TOP, top)]
    while waiting:
        block, pair = waiting.pop()
        if pair == NO_PAIR:
            continue
        level, number = block
        payload = _payload_at(drives, level, pair, only)
        if payload is None:
            lo, hi = stretch_of(level, number)
            lost.append((pair[0], lo, hi))
            continue
        places[block] = pair
        if level == LEAVES:
            records[number] = payload
        else:
            # The last child goes in first, so that the least keys are taken out ahead of the others.
            waiting.extend(_children_told(block, payload)[::-1])
    return (Tree(places, records), lost)


def book_walked(drives, book, *, only=None):
    """The dict of the trees of all roots of a book by ident, and the list of the addresses of their lost blocks."""
    trees = {}
    lost = []
    for ident in book.roots:
        tree, gone = walked(drives, book.roots[ident].top, only=only)
        trees[ident] = tree
        lost.extend([block[0] for block in gone])
    return (trees, lost)


def _payload_at(drives, level, pair, only):
    address, birth = pair
    # No cell has an address beyond the last one: such a block is lost, it is no fault of the caller.
    if address >= FIRST_TREE + drives.room:
        return None
    drive = drives.fitting(kind_of(level), address, birth, only=only)
    return None if drive is None else payload_of(drives.cell(drive, address))


def _children_told(block, payload):
    level, number = block
    return [(child, (payload[2 * i], payload[2 * i + 1])) for i, child in enumerate(children_of_block(level, number))]
