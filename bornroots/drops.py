"""The deed that drops a snapshot (point 9.7 of the document)."""

from bornroots.commit import do_freeing
from bornroots.errors import Cloned
from bornroots.namecodes import root_words
from bornroots.plan import book_step
from bornroots.roots import children_of, edge_of, remade, snap_named
from bornroots.space import parted


def drop(pool, root):
    """Take away a snapshot that has one child, and tell how many pairs are let go."""
    pool.need_running()
    root_words(root)

    def make(standing, elder, last):
        snap = droppable_named(standing.book, root)
        gone, dead = handed_on(standing.book, snap)
        child = children_of(standing.book, snap)[0]
        book = standing.book.twin()
        book.roots[child.ident] = remade(child, prev=snap.prev, dead=dead)
        del book.roots[snap.ident]
        return book_step(standing, last, book, standing.trees, gone)

    return do_freeing(pool, make)


def droppable_named(book, text):
    """The snapshot of this text, which has one child; Cloned(text) if it has more."""
    snap = snap_named(book, text)
    if len(children_of(book, snap)) > 1:
        raise Cloned(text)
    return snap


def handed_on(book, root):
    """The pairs that the drop of a snapshot with one child lets go, and the new dead list of the child."""
    child = children_of(book, root)[0]
    kept, gone = parted(child.dead, edge_of(book, root))
    return (tuple(sorted(gone)), tuple(sorted([*kept, *root.dead])))
