"""Views of those who look along a row either way."""

from holedwindows.checks import check_look
from holedwindows.finding import fits
from holedwindows.views import least_pair, views

ON = "on"
BACK = "back"


def both_views(row, mask):
    """Return the ascending list of the pairs of each stand and of what is seen there."""
    on = [((place, ON), view) for place, view in enumerate(views(row, mask))]
    # Who looks back sees what is seen from the row turned about, its last place first.
    last = len(row) - 1
    back = [((last - place, BACK), view) for place, view in enumerate(views(row[::-1], mask))]
    return sorted(on + back)


def both_alike(row, mask):
    """Return the least pair of stands with like views, None if there is none."""
    return least_pair(both_views(row, mask))


def both_find(row, mask, told):
    """Return the ascending list of the stands whose views have the letters of the look."""
    found = both_views(row, mask)
    check_look(told, mask)
    return [stand for stand, view in found if fits(view, told)]
