"""The transactions that can be found on drives (point 8.2 of the document)."""

from bornroots.bookrows import book_of
from bornroots.errors import NoPool
from bornroots.headrows import book_found, head_told
from bornroots.layout import AREAS, FIRST_TREE, head_place
from bornroots.rows import HEAD, fits, is_good
from bornroots.space import Standing, used_of
from bornroots.treewalk import book_walked


def heads_found(drives):
    """The list of (number, area) of all transactions whose head and pages fit, by number descending."""
    found = []
    for area in range(AREAS):
        for drive in range(drives.many):
            row = drives.cell(drive, head_place(area))
            if _is_candidate(drives, area, row):
                found.append((row[2], area))
    return sorted(set(found))[::-1]


def newest_found(drives):
    """The (number, area) of the greatest of them; NoPool(0) if there is none."""
    found = heads_found(drives)
    if not found:
        raise NoPool(0)
    return found[0]


def last_number(drives):
    """The greatest number of any good row in any cell of any drive, 0 if there is none."""
    last = 0
    for drive in range(drives.many):
        for place in range(FIRST_TREE + drives.room):
            row = drives.cell(drive, place)
            if is_good(row):
                last = max(last, row[2])
    return last


def head_at(drives, number, area):
    """What the head of a transaction tells: (tag, how many drives, room, number ahead, how many pages)."""
    place = head_place(area)
    return head_told(drives.cell(drives.fitting(HEAD, place, number), place))


def book_at(drives, number, area):
    """The book of a transaction."""
    pages = head_at(drives, number, area)[4]
    return book_of(book_found(drives, area, number, pages))


def standing_at(drives, number, area):
    """(Standing, None) of a transaction, or (None, the least address of a block that fits on no drive)."""
    book = book_at(drives, number, area)
    trees, lost = book_walked(drives, book)
    if lost:
        return (None, min(lost))
    return (Standing(number, area, head_at(drives, number, area)[3], book, trees, used_of(trees)), None)


def _is_candidate(drives, area, row):
    if not fits(row, HEAD, head_place(area)):
        return False
    return book_found(drives, area, row[2], head_told(row)[4]) is not None
