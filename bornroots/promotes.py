"""The deed that promotes a clone (point 9.9 of the document)."""

from bornroots.commit import do_roots
from bornroots.errors import NotClone, Quota
from bornroots.namecodes import need_name
from bornroots.plan import book_step
from bornroots.roots import chain_of, need_untaken_snap, origin_of, remade, volume_named
from bornroots.space import used_by, written_pairs


def promote(pool, vol):
    """Give a clone its origin and the snapshots ahead of that; it is a clone no more."""
    pool.need_running()
    need_name(vol)

    def make(standing, elder, last):
        volume = volume_named(standing.book, vol)
        origin = origin_of(standing.book, volume)
        if origin is None:
            raise NotClone(vol)
        moved = _up_to(standing.book, origin)
        for root in moved:
            need_untaken_snap(standing.book, volume, root.snap)
        # The moved roots keep their prevs, and so their edges: each one brings along just what it has written.
        more = sum([len(written_pairs(standing, root)) for root in moved])
        if 0 < volume.quota < used_by(standing, volume) + more:
            raise Quota(vol)
        book = standing.book.twin()
        for root in moved:
            book.roots[root.ident] = remade(root, volume=volume.head)
        return book_step(standing, last, book, standing.trees, [])

    do_roots(pool, make)


def _up_to(book, origin):
    """The snapshots of a volume by time, the last one being this snapshot."""
    chain = chain_of(book, book.volumes[origin.volume])
    return [root for root in chain if root.snap is not None and root.time <= origin.time]
