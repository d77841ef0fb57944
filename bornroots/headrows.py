"""The rows of pages and heads (point 3 of the document)."""

from bornroots.bookrows import pages_of
from bornroots.layout import PAGES, head_place, page_place
from bornroots.rows import HEAD, PAGE, made_row, payload_of


def page_rows(area, number, numbers):
    """The list of (place, row) of the pages on which these numbers of a book are told."""
    rows = []
    for i, page in enumerate(pages_of(numbers), start=1):
        place = page_place(area, i)
        rows.append((place, made_row(PAGE, place, number, page)))
    return rows


def head_row(area, number, tag, many, room, ahead, pages):
    """The (place, row) of the head of a transaction."""
    place = head_place(area)
    return (place, made_row(HEAD, place, number, (tag, many, room, ahead, pages)))


def head_told(row):
    """What a good head tells: (tag, how many drives, room, number of the root ahead, how many pages)."""
    return payload_of(row)


def book_found(drives, area, number, pages):
    """The numbers of a book from its pages; None if a page fits nowhere, or an area has not so many."""
    if pages > PAGES:
        return None
    numbers = []
    for i in range(1, pages + 1):
        place = page_place(area, i)
        drive = drives.fitting(PAGE, place, number)
        if drive is None:
            return None
        numbers.extend(payload_of(drives.cell(drive, place)))
    return tuple(numbers)
