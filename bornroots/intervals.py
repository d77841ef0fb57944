"""The fewest snapshots whose drop makes room (point 10.3 of the document)."""

from itertools import combinations

from bornroots.errors import BadNumber, TooMany
from bornroots.namecodes import need_name
from bornroots.roots import chain_of, children_of, volume_named
from bornroots.roomtold import freed_pairs

MOST_SNAPS = 10


def least_drops(pool, vol, wanted):
    """(m, names) of the fewest snapshots that together free so many pairs; None if all of them free fewer."""
    pool.need_running()
    need_name(vol)
    if wanted < 0:
        raise BadNumber(wanted)
    book = pool.root.book
    chain = chain_of(book, volume_named(book, vol))
    snaps = [root for root in chain if len(children_of(book, root)) == 1]
    if len(snaps) > MOST_SNAPS:
        raise TooMany(MOST_SNAPS)
    choice = _least_choice(_shares(pool.root, [snap.ident for snap in snaps]), len(snaps), wanted)
    if choice is None:
        return None
    return (len(choice), tuple([snaps[at].snap for at in choice]))


def _shares(standing, idents):
    """From the places of those of the roots that hold a pair to how many pairs just these roots have."""
    shares = {}
    held = [{one: True for one in standing.trees[ident].pairs()} for ident in idents]
    for pair in freed_pairs(standing, idents):
        holders = tuple([at for at in range(len(idents)) if pair in held[at]])
        shares[holders] = shares.get(holders, 0) + 1
    return shares


def _least_choice(shares, many, wanted):
    """The least of the shortest choices among so many that frees enough, None if all of them do not."""
    for m in range(many + 1):
        # Combinations come ascending, so the first one that does is the least.
        for choice in combinations(range(many), m):
            if _freed(shares, choice) >= wanted:
                return choice
    return None


def _freed(shares, choice):
    return sum([shares[holders] for holders in shares if all(at in choice for at in holders)])
