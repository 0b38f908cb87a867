"""Rows put together from their views, in order or in any."""

from holedwindows.checks import UNREAD, check_looks
from holedwindows.errors import TooMany
from holedwindows.masks import seen
from holedwindows.words import in_common

MOST_IN_ANY_ORDER = 7


def laid_on(signs, look, places, start):
    """Return the signs of a row with those of a look at start, None if they clash."""
    known = list(signs)
    for sign, place in zip(look, places):
        at = start + place
        if UNREAD not in (sign, known[at]) and sign != known[at]:
            return None
        if sign != UNREAD:
            known[at] = sign
    return "".join(known)


def unknown_row(mask, views):
    """Return the row that ends with the last look's window, with no letter known."""
    return UNREAD * (len(views) + len(mask) - 1)


def put_in_order(mask, views):
    """Return the pair of the row put together and of the first look that clashes."""
    places = seen(mask)
    check_looks(views, mask)
    row = unknown_row(mask, views)
    for start, look in enumerate(views):
        row = laid_on(row, look, places, start)
        if row is None:
            return None, start
    return row, None


def joined(mask, views):
    """Return the row of which these are the looks in order; None if two of them clash."""
    row, _ = put_in_order(mask, views)
    return row


def first_clash(mask, views):
    """Return the place of the first look that clashes with those ahead of it, or None."""
    _, clash = put_in_order(mask, views)
    return clash


def with_each_look(partial, places, start):
    """Return the rows with one of their looks left laid on at start, and the others left."""
    found = {}
    for row, left in partial:
        for at, look in enumerate(left):
            more = laid_on(row, look, places, start)
            if more is not None:
                # A dict keeps one of those that are the same.
                found[(more, left[:at] + left[at + 1:])] = True
    return list(found)


def rows_from(mask, views):
    """Return the ascending list of the rows put together from the looks in any order."""
    places = seen(mask)
    check_looks(views, mask)
    if len(views) > MOST_IN_ANY_ORDER:
        raise TooMany(MOST_IN_ANY_ORDER)
    # Sorted, so that what is left of like looks is the same.
    partial = [(unknown_row(mask, views), tuple(sorted(views)))]
    for start in range(len(views)):
        partial = with_each_look(partial, places, start)
    return sorted([row for row, _ in partial])


def sure_from(mask, views):
    """Return what the rows in any order have in common, `?` elsewhere; None for no rows."""
    rows = rows_from(mask, views)
    return in_common(rows, UNREAD) if rows else None
