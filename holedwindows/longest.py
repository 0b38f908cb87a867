"""The longest rows that a mask tells, and rows made longer."""

from holedwindows.checks import (
    LETTERS, LONGEST, check_lettered, check_number, check_row_in, check_small)
from holedwindows.growing import farthest_rows, told_rows
from holedwindows.masks import seen
from holedwindows.views import tells, view_at, views


def longest_rows(mask, letters):
    """Return the ascending list of the longest rows in these letters that are told."""
    check_small(mask, letters)
    return farthest_rows("", mask, letters)


def longest(mask, letters):
    """Return the greatest length of rows in these letters that the mask tells."""
    return len(longest_rows(mask, letters)[0])


def count_rows(mask, letters, length):
    """Return how many rows of this length in these letters the mask tells."""
    check_small(mask, letters)
    check_number(length, 0, LONGEST)
    return len(told_rows(mask, letters, length))


def next_letters(row, mask, letters):
    """Return the letters that can be put behind the row so that the mask tells it."""
    check_lettered(row, mask, letters)
    if not tells(row, mask):
        return ""
    signs = LETTERS[:letters]
    found = views(row, mask)
    if not found:
        # There is no view that the first one could be like.
        return signs
    # Not by tells, which takes no row of 61 letters.
    places = seen(mask)
    start = len(found)
    return "".join([sign for sign in signs if view_at(row + sign, places, start) not in found])


def farthest(row, mask, letters):
    """Return how long the row can be made so that it is told; None if it is not told."""
    check_small(mask, letters)
    check_row_in(row, letters)
    if not tells(row, mask):
        return None
    return len(farthest_rows(row, mask, letters)[0])
