"""How transactions are put (points 7.2 to 7.4 of the document)."""

from bornroots.bookrows import book_numbers
from bornroots.headrows import head_row, page_rows
from bornroots.plan import behind_open, content_step


def put_step(drives, tag, step):
    """Put the blocks, pages and head of a transaction."""
    told = step.standing
    pages = page_rows(told.area, told.number, book_numbers(told.book))
    head = head_row(told.area, told.number, tag, drives.many, drives.room, told.ahead, len(pages))
    for place, row in [*step.rows, *pages]:
        drives.put(place, row)
    # The head stands for all of them: it must not land ahead of one.
    drives.flush()
    drives.put(head[0], head[1])
    drives.flush()


def carry(pool, step):
    """Put a transaction, and make it the root of the pool."""
    pool.need_running()
    put_step(pool.drives, pool.tag, step)
    pool.elder = pool.root
    pool.root = step.standing
    pool.last = step.standing.number
    pool.opened = []


def commit(pool, *, always=False):
    """Put the transaction of the open deeds, and tell the number of the root."""
    pool.need_running()
    standing, elder, last, step = behind_open(pool)
    if step is None and always:
        step = content_step(standing, elder, last, pool.drives.room, {})
    if step is not None:
        carry(pool, step)
    return pool.root.number


def do_roots(pool, make):
    """Commit the open deeds and put the transaction that make tells, or nothing if it raises."""
    pool.need_running()
    standing, elder, last, ahead = behind_open(pool)
    step = make(standing, elder, last)
    if ahead is not None:
        carry(pool, ahead)
    carry(pool, step)
    return pool.root


def do_freeing(pool, make):
    """Do what do_roots does with a transaction without blocks, and tell how many pairs it lets go."""
    standing = do_roots(pool, make)
    # The elder is now the transaction ahead, the one behind which the deed was judged.
    return len(pool.elder.used) - len(standing.used)
