"""The looks at the roots of a pool (points 6 and 7.1 of the document)."""

from bornroots.looks import names_at, need_window, told_at, values_at
from bornroots.namecodes import root_words
from bornroots.paths import names_of
from bornroots.roots import root_named


def read(pool, root, path, at, many):
    """The list of so many values of a file from index at on, as far as its length goes."""
    _need_forms(pool, root, path)
    need_window(at, many)
    return values_at(_seen_records(pool, root), path, at, many)


def names(pool, root, path):
    """The list of the names of a folder's entries, ascending as texts."""
    _need_forms(pool, root, path)
    return names_at(_seen_records(pool, root), path)


def told(pool, root, path):
    """("file", node, links, length) or ("folder", node)."""
    _need_forms(pool, root, path)
    return told_at(_seen_records(pool, root), path)


def _need_forms(pool, root, path):
    pool.need_running()
    root_words(root)
    names_of(path)


def _seen_records(pool, root):
    return pool.records_of(root_named(pool.root.book, root))
