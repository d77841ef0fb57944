"""What a transaction makes of the one ahead of it (points 7.2 and 7.3 of the document)."""

from bornroots.bookrows import need_fitting
from bornroots.errors import NoRoom, Quota
from bornroots.layout import next_area
from bornroots.roots import edge_of, remade
from bornroots.space import Standing, free_places, parted, used_by
from bornroots.treeplan import changed, grown


class Step:
    """A transaction that is not yet put: what it leaves, and the rows of its new blocks in their order."""

    def __init__(self, standing, rows):
        self.standing = standing
        self.rows = list(rows)


def content_step(standing, elder, last, room, drafts, *, finish=None):
    """The step that gives heads the records of the drafts."""
    changes = {head: changed(standing.trees[head], drafts[head]) for head in sorted(drafts)}
    for head in changes:
        _need_quota(standing, head, changes[head])
    many = sum([len(changes[head][0]) for head in changes])
    cells = free_places(room, standing, elder)
    if many > len(cells):
        raise NoRoom(many)
    told = _following(standing, last, standing.book, standing.trees, standing.used)
    rows = []
    for head in changes:
        # A volume of which no record changed keeps its very root and tree.
        if changes[head] != ([], []):
            rows.extend(_grow(told, head, drafts[head], cells[len(rows):], changes[head][1]))
    if finish is not None:
        told = finish(told)
    need_fitting(told.book)
    return Step(told, rows)


def book_step(standing, last, book, trees, gone):
    """The step without blocks that puts another book and lets go of these pairs."""
    need_fitting(book)
    kept = {ident: trees[ident] for ident in book.roots}
    return Step(_following(standing, last, book, kept, without_pairs(standing.used, gone)), [])


def behind_open(pool):
    """Standing, elder and last number behind a commit of the open deeds, and its step (None without open deeds)."""
    if not pool.opened:
        return (pool.root, pool.elder, pool.last, None)
    step = content_step(pool.root, pool.elder, pool.last, pool.drives.room, open_drafts(pool))
    return (step.standing, pool.root, step.standing.number, step)


def open_drafts(pool):
    """The dict from each head with open deeds to the records of its last one."""
    return {head: records for head, records in pool.opened}


def without_pairs(used, gone):
    """The used cells without those of the pairs that are let go."""
    addresses = {pair[0]: True for pair in gone}
    return {address: used[address] for address in used if address not in addresses}


def _following(standing, last, book, trees, used):
    return Standing(last + 1, next_area(standing.area), standing.number, book, trees, used)


def _need_quota(standing, head, change):
    new, replaced = change
    volume = standing.book.volumes[head]
    gone = parted(replaced, edge_of(standing.book, standing.book.roots[head]))[1]
    used = used_by(standing, volume) + len(new) - len(gone)
    if volume.quota > 0 and used > volume.quota:
        raise Quota(volume.name)


def _grow(standing, head, records, cells, replaced):
    """Change the tree of a head in a standing that is being made, and tell the rows of its new blocks."""
    tree, rows = grown(standing.trees[head], records, cells, standing.number)
    root = standing.book.roots[head]
    kept, gone = parted(replaced, edge_of(standing.book, root))
    standing.trees[head] = tree
    standing.book.roots[head] = remade(root, top=tree.top(), dead=sorted([*root.dead, *kept]))
    standing.used = without_pairs(standing.used, gone)
    for place, _ in rows:
        standing.used[place] = standing.number
    return rows
