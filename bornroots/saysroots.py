"""The reader of lines on roots (point 14 of the document)."""

from bornroots.drops import drop
from bornroots.promotes import promote
from bornroots.rewinds import rewind
from bornroots.sayswords import said
from bornroots.snapshots import clone, rollback, snapshot
from bornroots.volumes import destroy, make_volume, set_quota


def says_roots(pool, line):
    """Make the call of a line, and tell repr of its result."""
    return said(pool, line, {
        "make_volume": (_make_volume, "NAME [QUOTA]"),
        "set_quota": (set_quota, "VOL QUOTA"),
        "destroy": (destroy, "VOL"),
        "snapshot": (snapshot, "VOL SNAP"),
        "clone": (_clone, "ROOT NAME [QUOTA]"),
        "rollback": (rollback, "VOL"),
        "drop": (drop, "ROOT"),
        "promote": (promote, "VOL"),
        "rewind": (rewind, ""),
    })


def _make_volume(pool, name, quota=0):
    return make_volume(pool, name, quota=quota)


def _clone(pool, root, name, quota=0):
    return clone(pool, root, name, quota=quota)
