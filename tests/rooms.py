"""Which refusals for lack of room a deed should meet, told by walks over all trees and counts of blocks alone."""

import copy

from bornroots.commit import commit
from bornroots.errors import Refused
from bornroots.parcels import checked

from rawpool import WIDTHS, raws_of
from records import DEEDS, done


def blocks_over(keys):
    return {(level, key // width) for key in keys for level, width in enumerate(WIDTHS)}


class Change:
    """What becomes of the tree of a root (None for a new volume) if it gets other records."""

    def __init__(self, raw, ident, records):
        old = raw.records[ident] if ident else {}
        unlike = blocks_over(key for key in {*old, *records} if old.get(key) != records.get(key))
        self.new = len(unlike & blocks_over(records))
        replaced = [pair for pair, block in raw.blocks[ident].items() if block in unlike] if ident else []
        self.gone = [pair for pair in replaced if pair[1] > raw.edge(ident)]
        self.dead = len(replaced) - len(self.gone)


def refused_change(raw, elder, drafts, more):
    """The refusal of a transaction that gives heads these records, its book being so many numbers longer besides."""
    changes = {ident: Change(raw, ident, drafts[ident]) for ident in sorted(drafts, key=lambda ident: ident or 10 ** 9)}
    for ident, change in changes.items():
        if ident:
            name, quota = raw.volumes[raw.roots[ident]["volume"]]
            used = sum(len(raw.written(other)) for other in raw.chain(ident))
            if 0 < quota < used + change.new - len(change.gone):
                return ("Quota", name)
    new = sum(change.new for change in changes.values())
    cells = raw.cells() | (elder.cells() if elder else set())
    if new > raw.room - len(cells):
        return ("NoRoom", new)
    numbers = numbers_of(raw) + more + 2 * sum(change.dead for change in changes.values())
    return ("BookFull", numbers) if numbers > 600 else None


def numbers_of(raw):
    return 3 + 3 * len(raw.volumes) + sum(10 + 2 * len(root["dead"]) for root in raw.roots.values())


def room_refusal(pool, deed):
    """The refusal by Quota, NoRoom or BookFull of a deed that no other refusal meets, or None."""
    name, *given = deed
    if name in DEEDS and len(pool.opened) < 8:
        raw, elder = raws_of(pool)
        head = raw.ident(given[0])
        return refused_change(raw, elder, {**dict(pool.opened), head: new_records(pool, head, name, given)}, 0)
    pool = copy.deepcopy(pool)
    pool.drives.arm(10 ** 9, 0)
    commit(pool)
    raw, elder = raws_of(pool)
    if name in DEEDS:
        head = raw.ident(given[0])
        return refused_change(raw, elder, {head: new_records(pool, head, name, given)}, 0)
    if name in ("snapshot", "clone"):
        return refused_change(raw, elder, {}, 10 if name == "snapshot" else 13)
    if name == "make_volume":
        return refused_change(raw, elder, {None: {0: (2, 0)}}, 13)
    if name == "receive":
        return refused_stream(raw, elder, *given)
    return refused_quota(raw, name, *given) if name in ("set_quota", "promote") else None


def new_records(pool, head, name, given):
    records = pool.records_of(pool.root.book.roots[head])
    try:
        return done(records, name, *given[1:])
    except Refused:
        return records


def refused_stream(raw, elder, stream, vol, snap):
    base, _, rows = checked(stream)
    if base == (0, 0):
        return refused_change(raw, elder, {None: dict(rows)}, 23)
    head = raw.ident(vol)
    records = {**raw.records[head], **dict(rows)}
    return refused_change(raw, elder, {head: {key: record for key, record in records.items() if record}}, 10)


def refused_quota(raw, name, vol, quota=None):
    head = raw.ident(vol)
    idents = raw.chain(head)
    if name == "promote":
        quota = raw.volumes[head][1]
        origin = raw.roots[idents[0]]["prev"]
        moved = raw.chain(raw.roots[origin]["volume"])
        idents = [*moved[:moved.index(origin) + 1], *idents]
    return ("Quota", vol) if 0 < quota < sum(len(raw.written(ident)) for ident in idents) else None
