"""What changed between two roots (points 11 to 11.2 of the document)."""

from bornroots.errors import NoBase
from bornroots.namecodes import root_words
from bornroots.roots import root_named
from bornroots.treeplan import LEAVES


def touched(pool, one, other):
    """The tuple of the keys that were born or went between a root and one that was made from it, ascending."""
    high, low = _two_roots(pool, one, other)
    need_base(pool.root.book, high, low, one)
    return tuple(touched_keys(pool.root, high, low))


def differ(pool, one, other):
    """The triples (key, record in one, record in other) of the keys whose leaves are not the same, by key."""
    first, second = [pool.root.trees[root.ident] for root in _two_roots(pool, one, other)]
    told = []
    for key in sorted(set(first.records) | set(second.records)):
        leaf = (LEAVES, key)
        if first.places.get(leaf) != second.places.get(leaf):
            told.append((key, first.records.get(key, ()), second.records.get(key, ())))
    return tuple(told)


def is_above(book, high, low):
    """Whether going from the root low by prevs comes to the root high; False for the same root."""
    ident = low.prev
    while ident not in (0, high.ident):
        ident = book.roots[ident].prev
    return ident == high.ident


def is_base(book, high, low):
    """Whether the root high is the root low or above it."""
    return high.ident == low.ident or is_above(book, high, low)


def need_base(book, high, low, text):
    """Raise NoBase(text) unless the root high, the text of which was handed in, is the root low or above it."""
    if not is_base(book, high, low):
        raise NoBase(text)


def touched_keys(standing, high, low):
    """The ascending list of the touched keys between the root high and the root low, which is high or below it."""
    if high.ident == low.ident:
        return []
    old = standing.trees[high.ident].records
    tree = standing.trees[low.ident]
    born = [key for key in tree.records if tree.places[(LEAVES, key)][1] > high.time]
    gone = [key for key in old if key not in tree.records]
    return sorted([*born, *gone])


def _two_roots(pool, one, other):
    pool.need_running()
    root_words(one)
    root_words(other)
    return (root_named(pool.root.book, one), root_named(pool.root.book, other))
