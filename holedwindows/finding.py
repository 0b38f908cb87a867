"""Places of a row, found by looks through a mask."""

from holedwindows.checks import check_look, check_number
from holedwindows.views import others, views


def near(row, mask, told, wrong):
    """Return the places whose views have at most so many others than the look."""
    found = views(row, mask)
    check_look(told, mask)
    check_number(wrong, 0, 12)
    return [place for place, view in enumerate(found) if others(view, told) <= wrong]


def find(row, mask, told):
    """Return the places whose views have the letters of the look."""
    return near(row, mask, told, 0)


def steps_needed(row, mask):
    """Return how many views, one behind the other, tell each place; None for no view."""
    found = views(row, mask)
    for many in range(1, len(found) + 1):
        runs = [tuple(found[start:start + many]) for start in range(len(found) - many + 1)]
        if len(set(runs)) == len(runs):
            return many
    return None
