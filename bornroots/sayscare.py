"""The reader of lines on the care of drives (point 14 of the document)."""

from bornroots.hits import hits
from bornroots.holders import holders
from bornroots.onoff import off, on
from bornroots.sayswords import said
from bornroots.scrub import scrub


def says_care(pool, line):
    """Make the call of a line, and tell repr of its result."""
    return said(pool, line, {
        "scrub": (scrub, ""),
        "off": (off, "DRIVE"),
        "on": (on, "DRIVE"),
        "hits": (hits, "PLACE"),
        "holders": (holders, "ADDRESS"),
    })
