"""Checks of arguments, which the modules of the package share."""

from holedwindows.errors import (
    BadLetters, BadMask, BadNumber, BadPattern, BadRow, BadSteps, BadView, BadViews, TooGreat)

LETTERS = "abcd"
UNREAD = "?"
WIDEST = 12
LONGEST = 60
MOST_LOOKS = 60
FARTHEST_STEP = 12
# For so many letters: how wide a small mask is at most, and how many places it sees.
SMALL_WIDTH = {1: 12, 2: 8, 3: 5, 4: 4}
SMALL_SEEN = {1: 12, 2: 4, 3: 2, 4: 1}


def made_of(value, signs):
    """Tell whether the value is a string of these signs alone."""
    return isinstance(value, str) and all([sign in signs for sign in value])


def is_mask(value):
    """Tell whether the value is a mask."""
    if not made_of(value, "x.") or not 1 <= len(value) <= WIDEST:
        return False
    return value[0] == "x" and value[-1] == "x"


def check_mask(mask):
    """Raise BadMask for any value that is no mask."""
    if not is_mask(mask):
        raise BadMask("not a mask")


def is_row(value):
    """Tell whether the value is a row."""
    return made_of(value, LETTERS) and len(value) <= LONGEST


def check_row(row):
    """Raise BadRow for any value that is no row."""
    if not is_row(row):
        raise BadRow("not a row")


def check_ring(row):
    """Raise BadRow for any value that is no row of one letter or more."""
    check_row(row)
    if not row:
        raise BadRow("a row without letters")


def check_pattern(pattern):
    """Raise BadPattern for any value that is no pattern."""
    if not made_of(pattern, LETTERS + UNREAD) or len(pattern) > LONGEST:
        raise BadPattern("not a pattern")


def is_look(told, mask):
    """Tell whether the value is a look through the mask."""
    return made_of(told, LETTERS + UNREAD) and len(told) == mask.count("x")


def check_look(told, mask):
    """Raise BadView for any value that is no look through the mask."""
    if not is_look(told, mask):
        raise BadView("not a look through the mask")


def check_looks(looks, mask):
    """Raise BadViews for any value that is no list or tuple of looks through the mask."""
    if not isinstance(looks, (list, tuple)) or not 1 <= len(looks) <= MOST_LOOKS:
        raise BadViews(None)
    for index, told in enumerate(looks):
        if not is_look(told, mask):
            raise BadViews(index)


def is_number(n, least, most):
    """Tell whether the value is an integer from least to most."""
    # In Python True and False are integers, too; in the document they are none.
    return isinstance(n, int) and not isinstance(n, bool) and least <= n <= most


def check_steps(steps, least, most):
    """Raise BadSteps for any value that is no list or tuple of from least to most steps."""
    if not isinstance(steps, (list, tuple)) or not least <= len(steps) <= most:
        raise BadSteps(None)
    for index, step in enumerate(steps):
        if not is_number(step, -FARTHEST_STEP, FARTHEST_STEP):
            raise BadSteps(index)


def check_number(n, least, most):
    """Raise BadNumber for any value that is no integer from least to most."""
    if not is_number(n, least, most):
        raise BadNumber(n)


def check_letters(letters):
    """Raise BadLetters for any value that is no number of letters."""
    if not is_number(letters, 1, len(LETTERS)):
        raise BadLetters("not a number of letters")


def check_great(width, many, letters):
    """Raise TooGreat for a greater width, or more places seen, than small masks have."""
    if width > SMALL_WIDTH[letters] or many > SMALL_SEEN[letters]:
        raise TooGreat("too great for so many letters")


def check_small(mask, letters):
    """Raise an error unless there are a mask and letters, and the mask is small for them."""
    check_mask(mask)
    check_letters(letters)
    check_great(len(mask), mask.count("x"), letters)


def check_row_in(row, letters):
    """Raise BadRow for any value that is no row in the first so many letters."""
    check_row(row)
    if not made_of(row, LETTERS[:letters]):
        raise BadRow("a row with other letters")


def check_lettered(row, mask, letters):
    """Raise an error unless there are a mask, letters and a row in these, in this order."""
    check_mask(mask)
    check_letters(letters)
    check_row_in(row, letters)
