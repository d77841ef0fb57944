"""What would be lost with a cell (point 12.4 of the document)."""

from bornroots.bounds import need_tree_place
from bornroots.keys import stretch_of
from bornroots.roots import text_of
from bornroots.treeplan import block_in


def hits(pool, place):
    """The triples (text, lo, hi) of the roots that reach a cell, by ident, each with the stretch of its block."""
    pool.need_running()
    need_tree_place(place, pool.drives.room)
    book = pool.root.book
    told = []
    for ident in sorted(book.roots):
        block = block_in(pool.root.trees[ident], place)
        if block is not None:
            lo, hi = stretch_of(block[0], block[1])
            told.append((text_of(book, book.roots[ident]), lo, hi))
    return tuple(told)
