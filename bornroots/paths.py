"""Paths (point 5 of the document)."""

from bornroots.errors import BadPath
from bornroots.namecodes import is_name

DEEPEST = 6


def names_of(path):
    """The list of the names of a path, [] of /; raises BadPath(path) for any other value."""
    if not isinstance(path, str) or not path.startswith("/"):
        raise BadPath(path)
    if path == "/":
        return []
    words = path[1:].split("/")
    if len(words) > DEEPEST or not all(is_name(word) for word in words):
        raise BadPath(path)
    return words
