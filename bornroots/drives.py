"""A set of drives: their cells, their power, and the faults that cells await (point 2 of the document)."""

from bornroots.bounds import need_within
from bornroots.errors import BadNumber, Off
from bornroots.layout import FIRST_TREE
from bornroots.power import digit_of, left_by
from bornroots.rows import fits


class Drives:
    """One to three drives of 41 + room cells each."""

    def __init__(self, many, room):
        need_within(many, 1, 3)
        need_within(room, 8, 400)
        self.many = many
        self.room = room
        self._cells = [[()] * (FIRST_TREE + room) for drive in range(many)]
        # The pending writes, and what the cells that they changed held at the last flush:
        # a loss of power lands the writes anew over that.
        self._writes = []
        self._stood = {}
        # From a cell that awaits a fault to the place where its next write lands (None: nowhere).
        self._faults = {}
        self._armed = None
        self._begun = 0
        self._power = False
        self._owner = 0
        self._on = [True] * many

    def cell(self, drive, place):
        """The row that a cell shows."""
        self._need_cell(drive, place)
        return self._cells[drive][place]

    def put(self, place, row, *, only=None):
        """Write a row into this cell of each drive that is on, or of just the named drives."""
        self._need_power()
        self._need_place(place)
        for drive in self._named(only, self.drives_on()):
            self._write(drive, place, tuple(row))

    def flush(self):
        """Make all writes so far stand for good."""
        self._need_power()
        self._settle()

    def arm(self, count, mask):
        """Let the power go when the count-th write from now on is begun."""
        if count < 1:
            raise BadNumber(count)
        if mask < 0:
            raise BadNumber(mask)
        self._armed = (count, mask)

    def cut(self):
        """Let the power go, all pending writes landing whole."""
        if self._power:
            self._settle()
            self._lose_power()

    def has_power(self):
        """Whether there is power."""
        return self._power

    def owner(self):
        """How many starts there were: the number of the last one."""
        return self._owner

    def start(self):
        """Give power, turn all drives on, and tell the new owner."""
        self._power = True
        self._on = [True] * self.many
        self._owner += 1
        return self._owner

    def is_on(self, drive):
        """Whether a drive is on."""
        self._need_drive(drive)
        return self._on[drive]

    def drives_on(self):
        """The drives that are on, ascending."""
        return tuple([drive for drive in range(self.many) if self._on[drive]])

    def turn(self, drive, on):
        """Turn a drive on or off."""
        self._need_drive(drive)
        self._on[drive] = on

    def fitting(self, kind, place, number, *, only=None):
        """The least drive, of the named ones or of all, whose cell shows a row that fits; None without one."""
        self._need_place(place)
        for drive in self._named(only, tuple(range(self.many))):
            if fits(self._cells[drive][place], kind, place, number):
                return drive
        return None

    def pending(self):
        """The list of (drive, place where it lands or None, row) of the pending writes."""
        return list(self._writes)

    def begun(self):
        """How many writes were begun since these drives were made."""
        return self._begun

    def await_fault(self, drive, place, other):
        """Let the next write to a cell land in another one of its drive, or nowhere if other is None."""
        self._need_cell(drive, place)
        if other is not None:
            self._need_place(other)
        self._faults[(drive, place)] = other

    def lay(self, drive, place, row):
        """Make pending writes stand for good, then the cell have this row, without a write."""
        self._need_cell(drive, place)
        self._settle()
        self._cells[drive][place] = tuple(row)

    def blank(self, drive):
        """Make pending writes stand for good, then empty a drive and forget its faults."""
        self._need_drive(drive)
        self._settle()
        self._cells[drive] = [()] * (FIRST_TREE + self.room)
        self._faults = {cell: self._faults[cell] for cell in self._faults if cell[0] != drive}

    def _write(self, drive, place, row):
        lands = place
        if (drive, place) in self._faults:
            lands = self._faults.pop((drive, place))
        self._begun += 1
        self._writes.append((drive, lands, row))
        if lands is not None:
            self._stood.setdefault((drive, lands), self._cells[drive][lands])
            self._cells[drive][lands] = row
        if self._armed is not None:
            self._count_down()

    def _count_down(self):
        count, mask = self._armed
        if count > 1:
            self._armed = (count - 1, mask)
            return
        self._land_by(mask)
        self._settle()
        self._lose_power()
        raise Off(None)

    def _land_by(self, mask):
        for drive, place in self._stood:
            self._cells[drive][place] = self._stood[(drive, place)]
        for j, (drive, place, row) in enumerate(self._writes):
            if place is not None:
                before = self._cells[drive][place]
                self._cells[drive][place] = left_by(row, before, digit_of(mask, j))

    def _settle(self):
        self._writes = []
        self._stood = {}

    def _lose_power(self):
        self._power = False
        self._armed = None

    def _named(self, only, others):
        if only is None:
            return others
        for drive in only:
            self._need_drive(drive)
        return tuple([drive for drive in range(self.many) if drive in only])

    def _need_power(self):
        if not self._power:
            raise Off(None)

    def _need_drive(self, drive):
        need_within(drive, 0, self.many - 1)

    def _need_place(self, place):
        need_within(place, 0, FIRST_TREE + self.room - 1)

    def _need_cell(self, drive, place):
        self._need_drive(drive)
        self._need_place(place)
