"""Masks and rows, written as texts."""

from holedwindows.checks import check_mask, check_row, is_mask, is_row
from holedwindows.errors import InvalidText


def write(mask, row):
    """Return the text of a mask and of a row, which may have no letters."""
    check_mask(mask)
    check_row(row)
    return mask + " " + row if row else mask


def read(text):
    """Return the pair of the mask and the row of a text."""
    # Spaces alone part the words: split() would take tabs and line feeds as well.
    parts = [part for part in text.split(" ") if part]
    if not parts or not is_mask(parts[0]):
        raise InvalidText(1)
    if len(parts) > 1 and not is_row(parts[1]):
        raise InvalidText(2)
    if len(parts) > 2:
        raise InvalidText(3)
    return parts[0], "".join(parts[1:])
