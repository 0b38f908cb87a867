"""Places of a row, found by looks through a mask."""

from holedwindows.checks import check_look, check_number
from holedwindows.views import all_unlike, others, views


def fits(view, told):
    """Tell whether a view has the letters of a look."""
    return others(view, told) == 0


def near(row, mask, told, wrong):
    """Return the places whose views have at most so many others than the look."""
    found = views(row, mask)
    check_look(told, mask)
    check_number(wrong, 0, 12)
    return [place for place, view in enumerate(found) if others(view, told) <= wrong]


def find(row, mask, told):
    """Return the places whose views have the letters of the look."""
    return near(row, mask, told, 0)


def first_places(many, offsets):
    """Return those of so many places from which each offset leads to one of them, too."""
    return [
        first for first in range(many)
        if all([0 <= first + offset < many for offset in offsets])]


def starts_of(found, looks, offsets):
    """Return the first places from which looks at these offsets can have been taken."""
    return [
        first for first in first_places(len(found), offsets)
        if all([fits(found[first + offset], told) for offset, told in zip(offsets, looks)])]


def runs_at(found, offsets):
    """Return the tuples of the views at these offsets from all first places."""
    return [
        tuple([found[first + offset] for offset in offsets])
        for first in first_places(len(found), offsets)]


def looks_needed(found, step):
    """Return how many views, each so far on from the last one, tell each first place.

    None if no such number of views does, or there are no views.
    """
    for many in range(1, len(found) + 1):
        runs = runs_at(found, [at * step for at in range(many)])
        if runs and all_unlike(runs):
            return many
    return None


def steps_needed(row, mask):
    """Return how many views, one behind the other, tell each place; None for no view."""
    return looks_needed(views(row, mask), 1)
