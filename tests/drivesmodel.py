"""Drives for tests, and a second, plain telling of point 2 of the document to compare them with."""

from bornroots.drives import Drives
from bornroots.rows import made_row

M = 1000003


def leaf(place, number, *payload):
    return made_row(5, place, number, payload)


def begun_drives(many=1, room=8):
    drives = Drives(many, room)
    drives.start()
    return drives


def half(row):
    return row[:len(row) // 2]


def good(row):
    if len(row) < 5 or row[3] != len(row) - 5:
        return False
    return sum((i + 1) * n for i, n in enumerate(row[:-1])) % M == row[-1]


class Model:
    def __init__(self, many, room):
        self.many = many
        self.size = 41 + room
        self.stood = {(drive, place): () for drive in range(many) for place in range(self.size)}
        self.writes = []
        self.faults = {}
        self.armed = None
        self.power = False
        self.owner = 0
        self.on = [True] * many
        self.begun = 0

    def shown(self):
        cells = dict(self.stood)
        for drive, place, row in self.writes:
            if place is not None:
                cells[drive, place] = row
        return cells

    def settle(self):
        self.stood = self.shown()
        self.writes = []

    def put(self, place, row, only=None):
        if not self.power:
            return ("Off", None)
        drives = [d for d in range(self.many) if self.on[d]] if only is None else sorted(set(only))
        for drive in drives:
            lands = self.faults.pop((drive, place), (place,))[0]
            self.begun += 1
            self.writes.append((drive, lands, row))
            if self.armed is not None:
                self.armed[0] -= 1
                if self.armed[0] == 0:
                    self.go_out(self.armed[1])
                    return ("Off", None)
        return None

    def go_out(self, mask):
        for j, (drive, place, row) in enumerate(self.writes):
            digit = mask // 3 ** j % 3
            if place is not None and digit != 1:
                self.stood[drive, place] = row if digit == 0 else half(row)
        self.writes = []
        self.power = False
        self.armed = None

    def flush(self):
        if not self.power:
            return ("Off", None)
        self.settle()
        return None

    def cut(self):
        if self.power:
            self.go_out(0)

    def start(self):
        self.power = True
        self.owner += 1
        self.on = [True] * self.many

    def rot(self, drive, place, at, by):
        row = self.shown()[drive, place]
        if not good(row):
            return ("NotGood", place)
        if not 0 <= at < len(row):
            return ("BadNumber", at)
        self.settle()
        self.stood[drive, place] = (*row[:at], (row[at] + by) % M, *row[at + 1:])
        return None

    def lay(self, drive, place, row):
        self.settle()
        self.stood[drive, place] = row

    def wipe(self, drive):
        self.settle()
        for place in range(self.size):
            self.stood[drive, place] = ()
        for cell in list(self.faults):
            if cell[0] == drive:
                del self.faults[cell]
