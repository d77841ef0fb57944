"""Where paths lead (point 5 of the document)."""

from bornroots.errors import IsFolder, NoName, NotFolder, TopFolder
from bornroots.folders import entry_of
from bornroots.nodes import is_folder
from bornroots.paths import names_of


def walk(records, path):
    """The node to which a path leads."""
    return _walk_names(records, names_of(path), path)


def walk_file(records, path):
    """The node of the file to which a path leads."""
    node = walk(records, path)
    if is_folder(records, node):
        raise IsFolder(path)
    return node


def upper(records, path):
    """The node of the folder in which the last name of a path is looked for, and that name."""
    names = names_of(path)
    if not names:
        raise TopFolder(path)
    node = _walk_names(records, names[:-1], path)
    if not is_folder(records, node):
        raise NotFolder(path)
    return (node, names[-1])


def _walk_names(records, names, path):
    node = 0
    for name in names:
        if not is_folder(records, node):
            raise NotFolder(path)
        node = entry_of(records, node, name)
        if node is None:
            raise NoName(path)
    return node
