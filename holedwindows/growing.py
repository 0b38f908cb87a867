"""Rows that a mask tells, made longer letter by letter."""

from holedwindows.checks import LETTERS
from holedwindows.masks import seen
from holedwindows.views import others, view_at
from holedwindows.words import words


def near_bits(bits, view, far):
    """Return the bits of all views that differ from this one in fewer letters than far."""
    return sum([bits[other] for other in bits if others(view, other) < far])


def window_bits(mask, signs, far):
    """Return for each string as wide as the mask the bit of its view, and those it bars."""
    places = seen(mask)
    bits = {view: 1 << at for at, view in enumerate(words(signs, len(places)))}
    barred = {view: near_bits(bits, view, far) for view in bits}
    shown = {window: view_at(window, places, 0) for window in words(signs, len(mask))}
    return {window: (bits[shown[window]], barred[shown[window]]) for window in shown}


class Growth:
    """The rows in so many letters that a small mask tells, each made from shorter ones.

    Their views differ in so many letters as far tells, or more. With each row goes a
    number that has the bits of the views that are barred by those of the row: bits are
    compared so fast that all rows that a mask tells can be gone through.
    """

    def __init__(self, mask, letters, far):
        self.signs = LETTERS[:letters]
        self.width = len(mask)
        self.bits = window_bits(mask, self.signs, far)

    def begun(self, row):
        """Return the list of this one row, which the mask must tell, with its bits."""
        barred = 0
        for start in range(len(row) - self.width + 1):
            _, near = self.bits[row[start:start + self.width]]
            barred |= near
        return [(row, barred)]

    def longer(self, told):
        """Return the rows that are told still with a letter put behind, ascending if told is."""
        found = []
        for row, barred in told:
            for sign in self.signs:
                more = row + sign
                # While the row is not as long as the mask is wide, there is no view yet.
                bit, near = self.bits.get(more[-self.width:], (0, 0))
                if not barred & bit:
                    found.append((more, barred | near))
        return found


def told_rows(mask, letters, length):
    """Return the ascending list of the rows of this length that a small mask tells."""
    growth = Growth(mask, letters, 1)
    told = growth.begun("")
    for _ in range(length):
        told = growth.longer(told)
    return [row for row, _ in told]


def farthest_rows(row, mask, letters, far=1):
    """Return the longest rows that begin with a row and are told, as the row itself is.

    The views of all these differ in so many letters as far tells, or more.
    """
    growth = Growth(mask, letters, far)
    told = growth.begun(row)
    while more := growth.longer(told):
        told = more
    return [made for made, _ in told]
