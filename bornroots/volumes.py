"""The deeds that make, limit and destroy volumes (points 9.2, 9.3 and 9.8 of the document)."""

from bornroots.bounds import need_quota
from bornroots.commit import do_freeing, do_roots
from bornroots.errors import HasSnaps, Quota
from bornroots.namecodes import need_name
from bornroots.nodes import empty_volume
from bornroots.plan import book_step, content_step
from bornroots.roots import Volume, add_volume, chain_of, need_untaken_name, volume_named
from bornroots.space import Standing, used_by, written_pairs
from bornroots.treeplan import NO_PAIR, Tree


def make_volume(pool, name, *, quota=0):
    """Make a volume that has its top folder alone, and tell the ident of its head."""
    pool.need_running()
    need_name(name)
    need_quota(quota)

    def make(standing, elder, last):
        begun, head = with_new_volume(standing, name, quota)
        return content_step(begun, elder, last, pool.drives.room, {head: empty_volume()})

    return do_roots(pool, make).book.next_id - 1


def set_quota(pool, vol, quota):
    """Give a volume this quota, 0 for none."""
    pool.need_running()
    need_name(vol)
    need_quota(quota)

    def make(standing, elder, last):
        volume = volume_named(standing.book, vol)
        if 0 < quota < used_by(standing, volume):
            raise Quota(vol)
        book = standing.book.twin()
        book.volumes[volume.head] = Volume(vol, quota, volume.head)
        return book_step(standing, last, book, standing.trees, [])

    do_roots(pool, make)


def destroy(pool, vol):
    """Take away a volume without snapshots, and tell how many pairs are let go."""
    pool.need_running()
    need_name(vol)

    def make(standing, elder, last):
        volume = volume_named(standing.book, vol)
        if len(chain_of(standing.book, volume)) > 1:
            raise HasSnaps(vol)
        gone = written_pairs(standing, standing.book.roots[volume.head])
        book = standing.book.twin()
        del book.volumes[volume.head]
        del book.roots[volume.head]
        return book_step(standing, last, book, standing.trees, gone)

    return do_freeing(pool, make)


def with_new_volume(standing, name, quota):
    """A standing with one more volume, which has no records yet, and the ident of its head; Taken(name)."""
    need_untaken_name(standing.book, name)
    book = standing.book.twin()
    head = add_volume(book, name, quota, 0, NO_PAIR)
    trees = {**standing.trees, head: Tree({}, {})}
    return (Standing(standing.number, standing.area, standing.ahead, book, trees, standing.used), head)
