"""Nodes of a volume's records (point 5 of the document)."""

from bornroots.keys import FAN, NODES

FILE = 1
FOLDER = 2


def head_of(records, node):
    """The head record of a node, or None if the node is not there."""
    return records.get(FAN * node)


def is_folder(records, node):
    """Whether a node that is there is a folder."""
    return head_of(records, node)[0] == FOLDER


def keys_of_node(records, node):
    """The ascending list of the keys of a node that the records have."""
    return [key for key in range(FAN * node, FAN * node + FAN) if key in records]


def free_node(records):
    """The least node behind the top folder's that is not there, or None."""
    for node in range(1, NODES):
        if head_of(records, node) is None:
            return node
    return None


def empty_volume():
    """The records of a volume that has its top folder alone."""
    return {0: (FOLDER, 0)}
