"""Rows that are repeated without end."""

from holedwindows.checks import check_number, check_ring
from holedwindows.masks import seen
from holedwindows.rings import ring_view, ring_views

FARTHEST_PLACE = 10 ** 30


def first_again(row, mask):
    """Return the first place whose view is that of one ahead of it, this one ahead first."""
    found = ring_views(row, mask)
    # Behind the last letter is the first one again, so no place lies further on.
    found = found + found[:1]
    other = min([place for place in range(1, len(found)) if found[place] in found[:place]])
    return found.index(found[other]), other


def told_to(row, mask):
    """Return the greatest length of a beginning that the mask tells."""
    _, other = first_again(row, mask)
    # The views ahead of this place are unlike; the last one ends a letter ahead of its end.
    return other + len(mask) - 1


def view_far(row, mask, place):
    """Return the view from a place that may lie very far on."""
    check_ring(row)
    places = seen(mask)
    check_number(place, 0, FARTHEST_PLACE)
    return ring_view(row, places, place)
