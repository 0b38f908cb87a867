"""Rows that a mask tells, made longer letter by letter."""

from holedwindows.checks import LETTERS
from holedwindows.masks import seen
from holedwindows.views import view_at
from holedwindows.words import words


def view_bits(mask, signs):
    """Return the dict from each string as wide as the mask to the bit of its view."""
    places = seen(mask)
    bits = {}
    bit_of_view = {}
    for window in words(signs, len(mask)):
        view = view_at(window, places, 0)
        bits[window] = bit_of_view.setdefault(view, 1 << len(bit_of_view))
    return bits


class Growth:
    """The rows in so many letters that a small mask tells, each made from shorter ones.

    With each row goes a number that has the bits of the row's views: bits are compared
    so fast that all rows that a mask tells can be gone through.
    """

    def __init__(self, mask, letters):
        self.signs = LETTERS[:letters]
        self.width = len(mask)
        self.bits = view_bits(mask, self.signs)

    def begun(self, row):
        """Return the list of this one row, which the mask must tell, with its bits."""
        starts = range(len(row) - self.width + 1)
        return [(row, sum([self.bits[row[start:start + self.width]] for start in starts]))]

    def longer(self, told):
        """Return the rows that are told still with a letter put behind, ascending if told is."""
        found = []
        for row, used in told:
            for sign in self.signs:
                more = row + sign
                # While the row is not as long as the mask is wide, there is no view yet.
                bit = self.bits.get(more[-self.width:], 0)
                if not used & bit:
                    found.append((more, used | bit))
        return found


def told_rows(mask, letters, length):
    """Return the ascending list of the rows of this length that a small mask tells."""
    growth = Growth(mask, letters)
    told = growth.begun("")
    for _ in range(length):
        told = growth.longer(told)
    return [row for row, _ in told]


def farthest_rows(row, mask, letters):
    """Return the longest rows that begin with a row and are told, as the row itself is."""
    growth = Growth(mask, letters)
    told = growth.begun(row)
    while more := growth.longer(told):
        told = more
    return [made for made, _ in told]
