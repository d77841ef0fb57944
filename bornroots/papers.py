"""Papers on what a drop lets go and on what was not touched (points 13 to 13.2 of the document)."""

from bornroots.drops import droppable_named, handed_on
from bornroots.keys import KEYS
from bornroots.namecodes import root_words
from bornroots.roots import children_of
from bornroots.touched import is_base, touched_keys


def letgo_paper(pool, root):
    """(ident, pairs): what the drop of a snapshot would let go."""
    pool.need_running()
    root_words(root)
    snap = droppable_named(pool.root.book, root)
    return (snap.ident, handed_on(pool.root.book, snap)[0])


def letgo_right(pool, paper):
    """Whether the root is a snapshot with one child, and its drop lets go of just these pairs."""
    pool.need_running()
    ident, pairs = paper
    book = pool.root.book
    if ident not in book.roots:
        return False
    # A head has no child, so what has one is a snapshot.
    root = book.roots[ident]
    return len(children_of(book, root)) == 1 and pairs == handed_on(book, root)[0]


def untouched_right(pool, paper):
    """Whether the first root is the second one or above it, and the key is not touched between them."""
    pool.need_running()
    one, other, key = paper
    roots = pool.root.book.roots
    if one not in roots or other not in roots or not 0 <= key < KEYS:
        return False
    if not is_base(pool.root.book, roots[one], roots[other]):
        return False
    return key not in touched_keys(pool.root, roots[one], roots[other])
