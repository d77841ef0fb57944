"""The deed that takes a stream into a pool (point 11.5 of the document)."""

from bornroots.commit import do_roots
from bornroots.errors import BadStream, Changed, NoBase
from bornroots.namecodes import need_name
from bornroots.parcels import checked
from bornroots.plan import content_step
from bornroots.roots import NO_MARK, add_snapshot, head_of_volume, need_untaken_snap
from bornroots.sound import is_sound
from bornroots.space import Standing
from bornroots.volumes import with_new_volume


def receive(pool, stream, vol, snap):
    """Make the snapshot that a stream tells, of a new volume if the stream is full, and tell its ident."""
    pool.need_running()
    need_name(vol)
    need_name(snap)
    base, mark, rows = checked(stream)

    def make(standing, elder, last):
        if base == NO_MARK:
            begun, head = with_new_volume(standing, vol, 0)
        else:
            begun, head = standing, _fitting_head(standing.book, vol, snap, base).ident
        records = _with_rows(begun.trees[head].records, rows)
        if not is_sound(records):
            raise BadStream(0)
        return content_step(begun, elder, last, pool.drives.room, {head: records},
                            finish=lambda told: _with_snapshot(told, head, snap, mark))

    return do_roots(pool, make).book.next_id - 1


def _fitting_head(book, vol, snap, base):
    """The head of the volume, which is just as the snapshot of the base mark is."""
    head = head_of_volume(book, vol)
    need_untaken_snap(book, book.volumes[head.ident], snap)
    if head.prev == 0 or book.roots[head.prev].mark != base:
        raise NoBase(vol)
    if head.top != book.roots[head.prev].top:
        raise Changed(vol)
    return head


def _with_rows(records, rows):
    """The records with these rows (key, record) put in, and without the keys that are gone."""
    told = {**records, **dict(rows)}
    return {key: told[key] for key in told if told[key]}


def _with_snapshot(standing, head, snap, mark):
    """The standing of a new head with a snapshot ahead of it."""
    book = standing.book.twin()
    ident = add_snapshot(book, book.roots[head], snap, standing.number, mark)
    trees = {**standing.trees, ident: standing.trees[head]}
    return Standing(standing.number, standing.area, standing.ahead, book, trees, standing.used)
