"""The deed that goes back to the elder (points 8.4 and 9.10 of the document)."""

from bornroots.commit import do_roots
from bornroots.errors import Broken, NoElder
from bornroots.layout import next_area
from bornroots.plan import Step
from bornroots.space import Standing
from bornroots.treewalk import book_walked


def rewind(pool):
    """Put the book of the transaction ahead of the root anew, and tell the number of the new root."""

    def make(standing, elder, last):
        if elder is None:
            raise NoElder(standing.number)
        lost = book_walked(pool.drives, elder.book, only=pool.drives.drives_on())[1]
        if lost:
            raise Broken(min(lost))
        area = next_area(standing.area)
        return Step(Standing(last + 1, area, standing.number, elder.book, elder.trees, elder.used), [])

    return do_roots(pool, make).number
