"""The mending of all drives (point 12.1 of the document)."""

from bornroots.mends import mend
from bornroots.promised import promised_rows


def scrub(pool):
    """Mend all drives that are on; what was put, and the places of what fits on none of them."""
    pool.need_running()
    drives = pool.drives
    on = drives.drives_on()
    rows = promised_rows(pool)
    lost = [place for place, kind, number in rows if drives.fitting(kind, place, number, only=on) is None]
    return (tuple(mend(drives, rows, on, on)), tuple(lost))
