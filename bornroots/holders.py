"""Papers on the roots that have a block (point 13.3 of the document)."""

from bornroots.bounds import need_tree_place
from bornroots.keys import KEYS, block_of, stretch_of
from bornroots.roots import children_of, edge_of
from bornroots.treeplan import LEAVES, block_in


def holders(pool, address):
    """The paper (address, birth, key, level, ident, idents) of the block in a cell, None if no root reaches it."""
    pool.need_running()
    need_tree_place(address, pool.drives.room)
    if address not in pool.root.used:
        return None
    birth = pool.root.used[address]
    book = pool.root.book
    idents = [ident for ident in sorted(book.roots) if block_in(pool.root.trees[ident], address) is not None]
    # A root got the block from its prev exactly if that one was there at its birth, so just one root wrote it.
    first = [ident for ident in idents if edge_of(book, book.roots[ident]) < birth][0]
    level, number = block_in(pool.root.trees[first], address)
    lo, hi = stretch_of(level, number)
    least = min([key for key in pool.root.trees[first].records if lo <= key <= hi])
    return (address, birth, least, level, first, tuple(idents))


def holders_right(pool, paper):
    """Whether the block stands there, and just these roots have it, the told one having written it."""
    pool.need_running()
    address, birth, key, level, ident, idents = paper
    book = pool.root.book
    if not _are_roots(book, idents) or ident not in idents:
        return False
    if not 0 <= level <= LEAVES or not 0 <= key < KEYS:
        return False
    if pool.root.trees[ident].places.get((level, block_of(level, key))) != (address, birth):
        return False
    if birth <= edge_of(book, book.roots[ident]):
        return False
    others = [book.roots[other] for other in idents if other != ident]
    if not all(root.prev in idents for root in others):
        return False
    return all(_ends_well(book, book.roots[other], idents, (address, birth)) for other in idents)


def _are_roots(book, idents):
    return all(ident in book.roots for ident in idents) and list(idents) == sorted(set(idents))


def _ends_well(book, root, idents, pair):
    """Whether each child of a root is among the holders, or tells the pair as dead, but not both."""
    return all((child.ident in idents) != (pair in child.dead) for child in children_of(book, root))
