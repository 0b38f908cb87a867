"""Rings: rows with the first letter behind the last one."""

from holedwindows.checks import LETTERS, check_ring, check_small
from holedwindows.growing import told_rows
from holedwindows.masks import seen
from holedwindows.views import all_unlike
from holedwindows.words import words


def ring_view(row, places, start):
    """Return the letters at these places of a mask laid on at start, round and round."""
    return "".join([row[(start + place) % len(row)] for place in places])


def ring_views(row, mask):
    """Return the list of the views from all places of the ring."""
    check_ring(row)
    places = seen(mask)
    return [ring_view(row, places, start) for start in range(len(row))]


def ring_tells(row, mask):
    """Tell whether the views from all places of the ring are unlike."""
    return all_unlike(ring_views(row, mask))


def count_views(mask, letters):
    """Return how many views there can be; no ring that is told has more letters."""
    return len(words(LETTERS[:letters], mask.count("x")))


def is_least(row):
    """Tell whether no row that begins at another place of the ring is less."""
    return row == min([row[start:] + row[:start] for start in range(len(row))])


def longest_ring(mask, letters):
    """Return the least of the longest rings in these letters that the mask tells."""
    check_small(mask, letters)
    # A ring that is told is told as a row, so it is among the rows of its length.
    for length in range(count_views(mask, letters), 1, -1):
        for row in told_rows(mask, letters, length):
            # The first one is the least row of its ring: the others are told, too.
            if ring_tells(row, mask):
                return row
    # A ring of one letter has one view, so it is always told.
    return LETTERS[0]


def full_rings(mask, letters):
    """Return the ascending list of the rings in which each view comes just once."""
    check_small(mask, letters)
    # With as many places as there are views, unlike views are all of them.
    rows = told_rows(mask, letters, count_views(mask, letters))
    return [row for row in rows if is_least(row) and ring_tells(row, mask)]
