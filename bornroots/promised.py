"""The rows that a pool needs (point 8.1 of the document)."""

from bornroots.bookrows import book_numbers, pages_of
from bornroots.layout import head_place, log_place, page_place
from bornroots.rows import HEAD, LOG, PAGE
from bornroots.treeplan import kind_of


def promised_rows(pool):
    """The list of (place, kind, number) of the promised rows, each once, ascending."""
    rows = [(log_place(i), LOG, pool.root.number) for i in range(len(pool.opened))]
    for standing in (pool.root, pool.elder):
        if standing is not None:
            rows.extend(_book_rows(standing))
            rows.extend(_block_rows(standing))
    return sorted(set(rows))


def _book_rows(standing):
    pages = pages_of(book_numbers(standing.book))
    rows = [(page_place(standing.area, i), PAGE, standing.number) for i in range(1, len(pages) + 1)]
    return [(head_place(standing.area), HEAD, standing.number), *rows]


def _block_rows(standing):
    rows = []
    for tree in standing.trees.values():
        for level, number in tree.places:
            address, birth = tree.places[(level, number)]
            rows.append((address, kind_of(level), birth))
    return rows
