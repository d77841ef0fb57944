"""The reader of lines on room (point 14 of the document)."""

from bornroots.intervals import least_drops
from bornroots.roomtold import free_cells, freed_by, referred, room, unique, used, written
from bornroots.sayswords import said


def says_rooms(pool, line):
    """Make the call of a line, and tell repr of its result."""
    return said(pool, line, {
        "room": (room, ""),
        "free_cells": (free_cells, ""),
        "referred": (referred, "ROOT"),
        "written": (written, "ROOT"),
        "unique": (unique, "ROOT"),
        "freed_by": (freed_by, "ROOTS.."),
        "used": (used, "VOL"),
        "least_drops": (least_drops, "VOL WANTED"),
    })
