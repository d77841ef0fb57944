"""Snapshots, clones and rollbacks (points 9.4 to 9.6 of the document)."""

from bornroots.bounds import need_quota
from bornroots.commit import do_freeing, do_roots
from bornroots.errors import NoSnap
from bornroots.namecodes import need_name, root_words
from bornroots.plan import book_step
from bornroots.roots import add_snapshot, add_volume, head_of_volume, need_untaken_name, need_untaken_snap, remade
from bornroots.roots import snap_named
from bornroots.space import written_pairs


def snapshot(pool, vol, snap):
    """Make a snapshot of a volume's head, and tell its ident."""
    pool.need_running()
    need_name(vol)
    need_name(snap)

    def make(standing, elder, last):
        head = head_of_volume(standing.book, vol)
        book = standing.book.twin()
        need_untaken_snap(book, book.volumes[head.ident], snap)
        ident = add_snapshot(book, head, snap, last + 1, (pool.tag, last + 1))
        trees = {**standing.trees, ident: standing.trees[head.ident]}
        return book_step(standing, last, book, trees, [])

    return do_roots(pool, make).book.next_id - 1


def clone(pool, root, name, *, quota=0):
    """Make a volume that begins as a snapshot is, and tell the ident of its head."""
    pool.need_running()
    root_words(root)
    need_name(name)
    need_quota(quota)

    def make(standing, elder, last):
        snap = snap_named(standing.book, root)
        need_untaken_name(standing.book, name)
        book = standing.book.twin()
        head = add_volume(book, name, quota, snap.ident, snap.top)
        trees = {**standing.trees, head: standing.trees[snap.ident]}
        return book_step(standing, last, book, trees, [])

    return do_roots(pool, make).book.next_id - 1


def rollback(pool, vol):
    """Make a volume's head what its prev is, and tell how many pairs are let go."""
    pool.need_running()
    need_name(vol)

    def make(standing, elder, last):
        head = head_of_volume(standing.book, vol)
        if head.prev == 0:
            raise NoSnap(vol)
        book = standing.book.twin()
        book.roots[head.ident] = remade(head, top=book.roots[head.prev].top, dead=())
        trees = {**standing.trees, head.ident: standing.trees[head.prev]}
        return book_step(standing, last, book, trees, written_pairs(standing, head))

    return do_freeing(pool, make)
