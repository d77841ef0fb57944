"""The questions of room (points 10.1 and 10.2 of the document)."""

from bornroots.namecodes import need_name, root_words
from bornroots.roots import root_named, volume_named
from bornroots.space import free_places, used_by, written_pairs


def room(pool):
    """How many cells the root reaches, how many the elder alone, how many neither."""
    pool.need_running()
    used_cells = len(pool.root.used)
    free = len(_free(pool))
    return (used_cells, pool.drives.room - used_cells - free, free)


def free_cells(pool):
    """The tuple of the cells that neither the root nor the elder reaches, ascending."""
    pool.need_running()
    return tuple(_free(pool))


def referred(pool, root):
    """How many pairs a root has."""
    pool.need_running()
    return len(pool.root.trees[root_named(pool.root.book, root).ident].pairs())


def written(pool, root):
    """How many pairs of a root were born behind its edge."""
    pool.need_running()
    return len(written_pairs(pool.root, root_named(pool.root.book, root)))


def unique(pool, root):
    """How many pairs a root has that no other one has."""
    return freed_by(pool, [root])


def freed_by(pool, roots):
    """How many pairs at least one of these roots has and no other one."""
    pool.need_running()
    for text in roots:
        root_words(text)
    return len(freed_pairs(pool.root, [root_named(pool.root.book, text).ident for text in roots]))


def used(pool, vol):
    """How many pairs the roots of a volume have written."""
    pool.need_running()
    need_name(vol)
    return used_by(pool.root, volume_named(pool.root.book, vol))


def freed_pairs(standing, idents):
    """The ascending list of the pairs that at least one of these roots has and no other one."""
    gone = _pairs_of(standing, [ident for ident in standing.trees if ident in idents])
    kept = _pairs_of(standing, [ident for ident in standing.trees if ident not in idents])
    return sorted([pair for pair in gone if pair not in kept])


def _free(pool):
    return free_places(pool.drives.room, pool.root, pool.elder)


def _pairs_of(standing, idents):
    # A dict, for a set could not be passed on.
    return {pair: True for ident in idents for pair in standing.trees[ident].places.values()}
