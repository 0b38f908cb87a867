"""Views of a row through a mask, and which of them are like."""

from holedwindows.checks import UNREAD, check_number, check_row
from holedwindows.masks import seen


def view_at(row, places, start):
    """Return the letters of the row at these places of a mask laid on at start."""
    return "".join([row[start + place] for place in places])


def others(view, look):
    """Return how many letters of a look are others than those of a view."""
    return len([sign for letter, sign in zip(view, look) if sign != UNREAD and sign != letter])


def views(row, mask):
    """Return the list of the views from all places of the row."""
    check_row(row)
    # Behind the row, since seen raises BadMask.
    places = seen(mask)
    return [view_at(row, places, start) for start in range(len(row) - len(mask) + 1)]


def all_unlike(found):
    """Tell whether no two of these views, or tuples of views, are like."""
    return len(set(found)) == len(found)


def tells(row, mask):
    """Tell whether the views from all places are unlike."""
    return all_unlike(views(row, mask))


def grouped(pairs):
    """Return the tuples of places with the same view, of ascending pairs (place, view)."""
    places = {}
    for place, view in pairs:
        places.setdefault(view, []).append(place)
    # A dict keeps its keys as they came, so the first places ascend.
    return [tuple(same) for same in places.values() if len(same) > 1]


def least_pair(pairs):
    """Return the least pair of places with the same view, None if there is none."""
    found = grouped(pairs)
    # The first group has the least place that is like another one further on.
    return found[0][:2] if found else None


def groups(row, mask):
    """Return the tuples of places with the same view, where there are several."""
    return grouped(list(enumerate(views(row, mask))))


def alike(row, mask):
    """Return the least pair of places with like views, None if there is none."""
    return least_pair(list(enumerate(views(row, mask))))


def distance(row, mask):
    """Return in how few letters two views differ, None if there are no two."""
    found = views(row, mask)
    numbers = [others(one, other) for at, one in enumerate(found) for other in found[at + 1:]]
    return min(numbers, default=None)


def stands(row, mask, wrong, covered):
    """Tell whether places are told still with so many letters wrong and covered."""
    least = distance(row, mask)
    check_number(wrong, 0, 12)
    check_number(covered, 0, 12)
    return least is None or least > 2 * wrong + covered
