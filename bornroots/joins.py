"""Two streams made one (point 11.4 of the document)."""

from bornroots.errors import NoBase
from bornroots.parcels import checked, made_stream
from bornroots.roots import NO_MARK


def joined(one, two):
    """The stream that does what two streams do, one behind the other."""
    base, between, old = checked(one)
    start, mark, new = checked(two)
    if start != between:
        raise NoBase(0)
    told = {**dict(old), **dict(new)}
    # A full stream tells no keys that are gone.
    keys = [key for key in sorted(told) if told[key] or base != NO_MARK]
    return made_stream(base, mark, [(key, told[key]) for key in keys])
