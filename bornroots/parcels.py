"""Streams: what of a snapshot is sent, and whether it came whole (points 11.3 and 11.4 of the document)."""

from bornroots.bounds import MOST_TAG
from bornroots.errors import BadStream
from bornroots.keys import KEYS
from bornroots.namecodes import root_words
from bornroots.roots import NO_MARK, need_snap, root_named
from bornroots.rows import MODULUS, check_of
from bornroots.touched import need_base, touched_keys

FIRST = 1
ROW = 2
LAST = 3
FIRST_NUMBERS = 6
MOST_NUMBERS = 16


def sent(pool, root, *, base=None):
    """The stream of a snapshot, full or with another one as its base."""
    pool.need_running()
    texts = [root] if base is None else [root, base]
    for text in texts:
        root_words(text)
    book = pool.root.book
    roots = [root_named(book, text) for text in texts]
    for snap, text in zip(roots, texts):
        need_snap(snap, text)
    low = roots[0]
    records = pool.root.trees[low.ident].records
    if base is None:
        return made_stream(NO_MARK, low.mark, [(key, records[key]) for key in sorted(records)])
    high = roots[1]
    need_base(book, high, low, base)
    keys = touched_keys(pool.root, high, low)
    return made_stream(high.mark, low.mark, [(key, records.get(key, ())) for key in keys])


def made_stream(base, mark, rows):
    """The stream with this base mark, this mark, and these rows (key, record) by key."""
    parcels = [(FIRST, *base, *mark, len(rows))]
    for key, record in rows:
        parcels.append((ROW, key, *record))
    return (*parcels, (LAST, _check_over(parcels)))


def checked(stream):
    """(base mark, mark, list of (key, record)) of a stream; BadStream(index) of the first parcel that is not right."""
    parcels = [tuple(parcel) for parcel in stream]
    _need(len(parcels) > 0 and _is_first(parcels[0]), 0)
    _, tag, number, own_tag, own_number, count = parcels[0]
    least = 1 if (tag, number) == NO_MARK else 0
    ahead = -1
    for at in range(1, count + 1):
        _need(at < len(parcels) and _is_row(parcels[at], ahead, least), at)
        ahead = parcels[at][1]
    end = count + 1
    _need(end < len(parcels) and _is_last(parcels[end]), end)
    _need(len(parcels) == end + 1, end + 1)
    _need(parcels[end][1] == _check_over(parcels[:end]), end)
    return ((tag, number), (own_tag, own_number), [(row[1], row[2:]) for row in parcels[1:end]])


def _check_over(parcels):
    return check_of([number for parcel in parcels for number in parcel])


def _need(is_right, index):
    if not is_right:
        raise BadStream(index)


def _are_numbers(parcel):
    return all(0 <= number < MODULUS for number in parcel)


def _is_first(parcel):
    if len(parcel) != FIRST_NUMBERS or not _are_numbers(parcel):
        return False
    word, tag, number, own_tag, own_number, count = parcel
    has_base = (tag, number) == NO_MARK or _is_mark(tag, number)
    return word == FIRST and has_base and _is_mark(own_tag, own_number) and count <= KEYS


def _is_mark(tag, number):
    return tag <= MOST_TAG and number > 0


def _is_row(parcel, ahead, least):
    if not least + 2 <= len(parcel) <= MOST_NUMBERS + 2 or not _are_numbers(parcel):
        return False
    return parcel[0] == ROW and ahead < parcel[1] < KEYS


def _is_last(parcel):
    return len(parcel) == 2 and _are_numbers(parcel) and parcel[0] == LAST
