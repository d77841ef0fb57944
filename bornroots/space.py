"""What a transaction left, and the tree cells that it holds (points 7, 4 and 10.2 of the document)."""

from bornroots.layout import tree_places
from bornroots.roots import chain_of, edge_of


class Standing:
    """What a transaction left: its number, area, the number of the root ahead, book, trees, and used cells."""

    def __init__(self, number, area, ahead, book, trees, used):
        self.number = number
        self.area = area
        self.ahead = ahead
        self.book = book.twin()
        self.trees = dict(trees)
        self.used = dict(used)


def reached(standing):
    """The list of the addresses of all blocks of the trees, each once, ascending."""
    return sorted(used_of(standing.trees))


def used_of(trees):
    """The dict from the address of each block of the trees to its birth."""
    used = {}
    for ident in trees:
        for address, birth in trees[ident].pairs():
            used[address] = birth
    return used


def free_places(room, standing, elder):
    """The list of the tree cells that neither of both uses, ascending; elder may be None."""
    kept = {} if elder is None else elder.used
    return [place for place in tree_places(room) if place not in standing.used and place not in kept]


def written_pairs(standing, root):
    """The list of the pairs of a root that were born behind its edge, ascending."""
    return parted(standing.trees[root.ident].pairs(), edge_of(standing.book, root))[1]


def used_by(standing, volume):
    """How many pairs the roots of a volume have written."""
    return sum([len(written_pairs(standing, root)) for root in chain_of(standing.book, volume)])


def parted(pairs, edge):
    """The list of the pairs with a birth of at most the edge, and the list of the others."""
    old = [pair for pair in pairs if pair[1] <= edge]
    young = [pair for pair in pairs if pair[1] > edge]
    return (old, young)
