"""The file deeds of a pool (points 6 and 7.1 of the document)."""

from bornroots.commit import carry
from bornroots.deedlog import put_log
from bornroots.deedsdata import need_length, need_span, with_length, with_values
from bornroots.deedsmake import with_file, with_folder, with_link, without_name
from bornroots.deedsmove import with_move
from bornroots.layout import LOGS
from bornroots.namecodes import need_name
from bornroots.paths import names_of
from bornroots.plan import behind_open, content_step, open_drafts
from bornroots.roots import head_of_volume


def make_folder(pool, vol, path):
    """Make a folder, and tell its node."""
    return _make(pool, vol, path, with_folder)


def make_file(pool, vol, path):
    """Make an empty file, and tell its node."""
    return _make(pool, vol, path, with_file)


def link(pool, vol, path, other):
    """Make other an entry of the file of path, too."""
    _need_forms(pool, vol, [path, other])
    old = _seen_records(pool, vol)
    _grant(pool, vol, old, with_link(old, path, other))


def unlink(pool, vol, path):
    """Take an entry away, and its node if nothing leads there any more."""
    _need_forms(pool, vol, [path])
    old = _seen_records(pool, vol)
    _grant(pool, vol, old, without_name(old, path))


def move(pool, vol, path, other):
    """Make the entry of path the entry of other."""
    _need_forms(pool, vol, [path, other])
    old = _seen_records(pool, vol)
    _grant(pool, vol, old, with_move(old, path, other))


def write(pool, vol, path, at, values):
    """Write values into a file, from index at on."""
    _need_forms(pool, vol, [path])
    need_span(at, values)
    old = _seen_records(pool, vol)
    _grant(pool, vol, old, with_values(old, path, at, values))


def cut_to(pool, vol, path, length):
    """Give a file this length."""
    _need_forms(pool, vol, [path])
    need_length(length)
    old = _seen_records(pool, vol)
    _grant(pool, vol, old, with_length(old, path, length))


def _make(pool, vol, path, deed):
    _need_forms(pool, vol, [path])
    old = _seen_records(pool, vol)
    new, node = deed(old, path)
    _grant(pool, vol, old, new)
    return node


def _need_forms(pool, vol, paths):
    pool.need_running()
    need_name(vol)
    for path in paths:
        names_of(path)


def _seen_records(pool, vol):
    return pool.records_of(head_of_volume(pool.root.book, vol))


def _grant(pool, vol, old, new):
    """Judge the deed that makes the old records the new ones, and open it."""
    head = head_of_volume(pool.root.book, vol).ident
    if len(pool.opened) < LOGS:
        drafts = open_drafts(pool)
        drafts[head] = new
        content_step(pool.root, pool.elder, pool.last, pool.drives.room, drafts)
    else:
        # No log cell is left: the open deeds are committed, but only if this one is granted behind them.
        standing, elder, last, step = behind_open(pool)
        content_step(standing, elder, last, pool.drives.room, {head: new})
        carry(pool, step)
    put_log(pool, head, old, new)
    pool.opened.append((head, new))
