"""Drives turned off, and brought back (points 12.2 and 12.3 of the document)."""

from bornroots.errors import AlreadyOff, AlreadyOn, LastDrive
from bornroots.mends import mend
from bornroots.promised import promised_rows


def off(pool, drive):
    """Turn a drive off; writes pass it by from now on."""
    pool.need_running()
    if not pool.drives.is_on(drive):
        raise AlreadyOff(drive)
    if pool.drives.drives_on() == (drive,):
        raise LastDrive(drive)
    pool.drives.turn(drive, False)


def on(pool, drive):
    """Give a drive what it missed and turn it on; the tuple of the places that were put, ascending."""
    pool.need_running()
    if pool.drives.is_on(drive):
        raise AlreadyOn(drive)
    put = mend(pool.drives, promised_rows(pool), (drive,), pool.drives.drives_on())
    pool.drives.turn(drive, True)
    return tuple([place for place, _ in put])
