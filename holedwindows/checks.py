"""Checks of arguments, which the modules of the package share."""

from holedwindows.errors import BadMask, BadNumber, BadRow, BadView

LETTERS = "abcd"
UNREAD = "?"
WIDEST = 12
LONGEST = 60


def made_of(value, signs):
    """Tell whether the value is a string of these signs alone."""
    return isinstance(value, str) and all([sign in signs for sign in value])


def check_mask(mask):
    """Raise BadMask for any value that is no mask."""
    if not made_of(mask, "x.") or not 1 <= len(mask) <= WIDEST:
        raise BadMask("not a mask")
    if mask[0] != "x" or mask[-1] != "x":
        raise BadMask("not a mask")


def check_row(row):
    """Raise BadRow for any value that is no row."""
    if not made_of(row, LETTERS) or len(row) > LONGEST:
        raise BadRow("not a row")


def check_look(told, mask):
    """Raise BadView for any value that is no look through the mask."""
    if not made_of(told, LETTERS + UNREAD) or len(told) != mask.count("x"):
        raise BadView("not a look through the mask")


def check_number(n, least, most):
    """Raise BadNumber for any value that is no integer from least to most."""
    # In Python True and False are integers, too; in the document they are none.
    if not isinstance(n, int) or isinstance(n, bool) or not least <= n <= most:
        raise BadNumber(n)
