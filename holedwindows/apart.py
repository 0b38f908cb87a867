"""The longest rows whose views differ in many letters."""

from holedwindows.checks import check_number, check_small
from holedwindows.growing import farthest_rows


def apart_rows(mask, letters, far):
    """Return the ascending list of the longest rows whose views differ in so many letters."""
    check_small(mask, letters)
    check_number(far, 1, 12)
    return farthest_rows("", mask, letters, far)


def longest_apart(mask, letters, far):
    """Return the greatest length of rows whose views differ in so many letters or more."""
    return len(apart_rows(mask, letters, far)[0])
