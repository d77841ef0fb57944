"""What can still be read of a pool whose blocks are lost (point 8.5 of the document)."""

from bornroots.heads import book_at, newest_found
from bornroots.roots import text_of
from bornroots.treewalk import walked


def salvage(drives):
    """A triple for each root, by ident: its text, its pairs (key, record) that are reached, its lost stretches."""
    number, area = newest_found(drives)
    book = book_at(drives, number, area)
    told = []
    for ident in sorted(book.roots):
        tree, lost = walked(drives, book.roots[ident].top)
        stretches = tuple([(block[1], block[2]) for block in lost])
        told.append((text_of(book, book.roots[ident]), tuple(sorted(tree.records.items())), stretches))
    return tuple(told)
