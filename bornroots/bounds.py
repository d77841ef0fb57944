"""The questions that most forms of arguments come down to."""

from bornroots.errors import BadNumber
from bornroots.layout import is_tree_place

MOST_QUOTA = 1000
MOST_TAG = 999


def need_within(number, least, most):
    """Raise BadNumber(number) unless it is from least to most."""
    if not least <= number <= most:
        raise BadNumber(number)


def need_quota(quota):
    """Raise BadNumber(quota) unless a volume may have this quota."""
    need_within(quota, 0, MOST_QUOTA)


def need_tree_place(place, room):
    """Raise BadNumber(place) unless it is a tree cell."""
    if not is_tree_place(place, room):
        raise BadNumber(place)
