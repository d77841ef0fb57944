"""The looks at records: read, names, told (point 6 of the document)."""

from bornroots.bounds import need_within
from bornroots.errors import NotFolder
from bornroots.filevalues import MOST_VALUES, need_index, values_of
from bornroots.folders import names_in
from bornroots.nodes import head_of, is_folder
from bornroots.paths import names_of
from bornroots.walkpath import walk, walk_file


def values_at(records, path, at, many):
    """The list of so many values of a file from index at on, as far as its length goes."""
    names_of(path)
    need_window(at, many)
    return values_of(records, walk_file(records, path))[at:at + many]


def names_at(records, path):
    """The list of the names of a folder's entries, ascending as texts."""
    node = walk(records, path)
    if not is_folder(records, node):
        raise NotFolder(path)
    return names_in(records, node)


def told_at(records, path):
    """("file", node, links, length) or ("folder", node)."""
    node = walk(records, path)
    if is_folder(records, node):
        return ("folder", node)
    _, links, length = head_of(records, node)
    return ("file", node, links, length)


def need_window(at, many):
    """Raise BadNumber of the first that is beyond its bounds."""
    need_index(at)
    need_within(many, 0, MOST_VALUES)
