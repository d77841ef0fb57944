"""What a loss of power makes of pending writes (point 2 of the document)."""

from bornroots.rows import half_of


def digit_of(mask, j):
    """The j-th digit of the mask to the base 3, from 0 on; 0 beyond its last one."""
    while j > 0 and mask > 0:
        mask = mask // 3
        j = j - 1
    return mask % 3


def left_by(row, before, digit):
    """What a cell holds that held before when power went in the write of row."""
    if digit == 0:
        return row
    if digit == 1:
        return before
    return half_of(row)
