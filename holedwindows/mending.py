"""Letters of a row that are changed so that a mask tells it."""

from holedwindows.checks import LETTERS, check_lettered
from holedwindows.errors import TooLong
from holedwindows.views import others, tells

LONGEST_TO_MEND = 8


def told_near(row, mask, signs, changes):
    """Return the ascending list of the told rows with at most so many letters others."""
    made = [""]
    for _ in row:
        longer = [begun + sign for begun in made for sign in signs]
        # Each beginning of a row that is told is told, so no other one has to be kept.
        made = [begun for begun in longer if others(row, begun) <= changes and tells(begun, mask)]
    return made


def mend(row, mask, letters):
    """Return how few letters must be others, and the least row with so many, or None."""
    check_lettered(row, mask, letters)
    if len(row) > LONGEST_TO_MEND:
        raise TooLong(LONGEST_TO_MEND)
    for changes in range(len(row) + 1):
        made = told_near(row, mask, LETTERS[:letters], changes)
        if made:
            return changes, made[0]
    return None


def weak_letters(row, mask, letters):
    """Return the pairs of a place and another letter with which the row is told."""
    check_lettered(row, mask, letters)
    return [
        (place, sign) for place in range(len(row)) for sign in LETTERS[:letters]
        if sign != row[place] and tells(row[:place] + sign + row[place + 1:], mask)]
