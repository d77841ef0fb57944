"""The deed that moves an entry (point 6 of the document)."""

from bornroots.deedsmake import need_bucket, need_not_top, need_untaken
from bornroots.errors import Within
from bornroots.folders import with_entry, without_entry
from bornroots.keys import key_of
from bornroots.nodes import FOLDER, head_of, is_folder
from bornroots.paths import names_of
from bornroots.walkpath import upper, walk


def with_move(records, path, other):
    """New records in which the entry of path is the entry of other."""
    names_of(path)
    names_of(other)
    need_not_top(path)
    need_not_top(other)
    node = walk(records, path)
    target, name = upper(records, other)
    need_untaken(records, target, name, other)
    if is_folder(records, node) and _is_at_or_above(records, node, target):
        raise Within(other)
    # The moved entry is out of its bucket ahead of the question whether the other bucket is full.
    source, old_name = upper(records, path)
    told = without_entry(records, source, old_name)
    need_bucket(told, target, name, other)
    told = with_entry(told, target, name, node)
    if is_folder(records, node):
        told[key_of(node, 0)] = (FOLDER, target)
    return told


def _is_at_or_above(records, node, below):
    while below not in (node, 0):
        below = head_of(records, below)[1]
    return below == node
