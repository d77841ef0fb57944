"""The places of the cells of a drive (point 3 of the document)."""

AREAS = 3
PAGES = 10
LOGS = 8
FIRST_LOG = 33
FIRST_TREE = 41


def head_place(area):
    """The cell of the head of an area."""
    return (1 + PAGES) * area


def page_place(area, i):
    """The cell of the i-th page of an area, i from 1."""
    return head_place(area) + i


def log_place(i):
    """The i-th log cell, i from 0."""
    return FIRST_LOG + i


def next_area(area):
    """The area that follows."""
    return (area + 1) % AREAS


def tree_places(room):
    """The list of all tree cells, ascending."""
    return list(range(FIRST_TREE, FIRST_TREE + room))


def is_tree_place(place, room):
    """Whether the place is a tree cell."""
    return FIRST_TREE <= place < FIRST_TREE + room
