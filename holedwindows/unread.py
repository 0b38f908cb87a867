"""What rows can be of which not all letters were read."""

from holedwindows.checks import LETTERS, UNREAD, check_letters, check_mask, check_pattern
from holedwindows.errors import TooMany
from holedwindows.views import tells
from holedwindows.words import in_common

MOST_UNREAD = 6


def fillings(pattern, letters):
    """Return the ascending list of all rows that the pattern can be."""
    rows = [""]
    for sign in pattern:
        choices = LETTERS[:letters] if sign == UNREAD else sign
        rows = [row + letter for row in rows for letter in choices]
    return rows


def fill(pattern, mask, letters):
    """Return the list of all rows that the pattern can be, and that of those that are told."""
    check_pattern(pattern)
    check_mask(mask)
    check_letters(letters)
    if pattern.count(UNREAD) > MOST_UNREAD:
        raise TooMany(MOST_UNREAD)
    rows = fillings(pattern, letters)
    return rows, [row for row in rows if tells(row, mask)]


def fill_counts(pattern, mask, letters):
    """Return how many of the rows that the pattern can be are told, and how many there are."""
    rows, told = fill(pattern, mask, letters)
    return len(told), len(rows)


def first_filling(pattern, mask, letters):
    """Return the least row that the pattern can be and that is told, None if none is."""
    _, told = fill(pattern, mask, letters)
    return told[0] if told else None


def sure_letters(pattern, mask, letters):
    """Return what all rows that are told have in common, `?` elsewhere; None for no rows."""
    _, told = fill(pattern, mask, letters)
    return in_common(told, UNREAD) if told else None
