"""How a pool is made, and how it is taken up again (points 8 to 8.3 of the document)."""

from bornroots.bounds import MOST_TAG, need_within
from bornroots.commit import carry, put_step
from bornroots.deedlog import has_log, log_found
from bornroots.errors import Broken, NoElder
from bornroots.faults import wipe
from bornroots.heads import head_at, heads_found, last_number, newest_found, standing_at
from bornroots.layout import AREAS, next_area
from bornroots.mends import mend
from bornroots.plan import Step, content_step
from bornroots.promised import promised_rows
from bornroots.roots import Book
from bornroots.space import Standing
from bornroots.state import Pool


def made_pool(drives, *, tag=0):
    """A new, empty pool on the drives, which lose all that they held."""
    need_within(tag, 0, MOST_TAG)
    drives.start()
    for drive in range(drives.many):
        wipe(drives, drive)
    first = Standing(1, 0, 0, Book(), {}, {})
    put_step(drives, tag, Step(first, []))
    return Pool(drives, tag, first, None, 1)


def mount(drives, *, elder=False):
    """The pool whose newest whole head stands on the drives; with elder the one ahead of it is taken up."""
    number, area = newest_found(drives)
    if elder:
        return _elder_taken_up(drives, number, area)
    return _root_taken_up(drives, number, area)


def _root_taken_up(drives, number, area):
    root, lost = standing_at(drives, number, area)
    if root is None:
        raise Broken(lost)
    tag = head_at(drives, number, area)[0]
    ahead = _elder_found(drives, number, area)
    last = last_number(drives)
    drives.start()
    pool = Pool(drives, tag, root, ahead, last)
    if has_log(drives, number):
        carry(pool, content_step(root, ahead, last, drives.room, _logged_drafts(drives, root)))
    return _mended(pool)


def _elder_taken_up(drives, number, area):
    ahead = _elder_found(drives, number, area)
    if ahead is None:
        raise NoElder(number)
    tag = head_at(drives, number, area)[0]
    left = standing_at(drives, number, area)[0]
    last = last_number(drives) + 1
    drives.start()
    root = Standing(last, next_area(area), number, ahead.book, ahead.trees, ahead.used)
    put_step(drives, tag, Step(root, []))
    return _mended(Pool(drives, tag, root, left, last))


def _elder_found(drives, number, area):
    """The Standing of the transaction on which this one was built, None if it is not whole."""
    ahead = head_at(drives, number, area)[3]
    place = (area + AREAS - 1) % AREAS
    # No head has the number 0, so the first transaction finds none.
    if (ahead, place) not in heads_found(drives):
        return None
    return standing_at(drives, ahead, place)[0]


def _logged_drafts(drives, standing):
    drafts = {}
    for head, changes in log_found(drives, standing.number):
        records = drafts.setdefault(head, dict(standing.trees[head].records))
        for key, record in changes:
            if record:
                records[key] = record
            else:
                records.pop(key, None)
    return drafts


def _mended(pool):
    every = tuple(range(pool.drives.many))
    mend(pool.drives, promised_rows(pool), every, every)
    return pool
