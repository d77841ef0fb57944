"""The deeds that make folders, files and links, and unlink (point 6 of the document)."""

from bornroots.errors import FolderFull, NoNode, NotEmpty, Taken, TopFolder
from bornroots.folders import entry_of, is_full, names_in, with_entry, without_entry
from bornroots.keys import key_of
from bornroots.nodes import FILE, FOLDER, free_node, head_of, is_folder, keys_of_node
from bornroots.paths import names_of
from bornroots.walkpath import upper, walk, walk_file


def with_folder(records, path):
    """New records with a new folder, and its node."""
    parent = upper(records, path)[0]
    return _with_node(records, path, (FOLDER, parent))


def with_file(records, path):
    """New records with a new empty file, and its node."""
    return _with_node(records, path, (FILE, 1, 0))


def with_link(records, path, other):
    """New records in which other is an entry of the file of path, too."""
    names_of(path)
    need_not_top(other)
    node = walk_file(records, path)
    parent, name = upper(records, other)
    need_untaken(records, parent, name, other)
    need_bucket(records, parent, name, other)
    told = with_entry(records, parent, name, node)
    told[key_of(node, 0)] = _head_with_links(records, node, 1)
    return told


def without_name(records, path):
    """New records without the entry of path, and without its node if nothing leads there any more."""
    need_not_top(path)
    node = walk(records, path)
    if is_folder(records, node) and names_in(records, node):
        raise NotEmpty(path)
    parent, name = upper(records, path)
    told = without_entry(records, parent, name)
    head = None if is_folder(records, node) else _head_with_links(records, node, -1)
    if head is not None and head[1] > 0:
        told[key_of(node, 0)] = head
        return told
    gone = keys_of_node(records, node)
    return {key: told[key] for key in told if key not in gone}


def need_not_top(path):
    """Raise BadPath(path) for what is no path, TopFolder(path) for /."""
    if not names_of(path):
        raise TopFolder(path)


def need_untaken(records, parent, name, path):
    """Raise Taken(path) if the folder has an entry of this name."""
    if entry_of(records, parent, name) is not None:
        raise Taken(path)


def need_bucket(records, parent, name, path):
    """Raise FolderFull(path) if the folder has no room for an entry of this name."""
    if is_full(records, parent, name):
        raise FolderFull(path)


def _with_node(records, path, head):
    parent, name = upper(records, path)
    need_untaken(records, parent, name, path)
    node = free_node(records)
    if node is None:
        raise NoNode(path)
    need_bucket(records, parent, name, path)
    told = with_entry(records, parent, name, node)
    told[key_of(node, 0)] = head
    return (told, node)


def _head_with_links(records, node, more):
    kind, links, length = head_of(records, node)
    return (kind, links + more, length)
