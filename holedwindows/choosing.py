"""Masks that tell the longest rows, or tell a row and see the fewest places."""

from holedwindows.checks import (
    WIDEST, check_great, check_letters, check_number, check_row)
from holedwindows.longest import longest
from holedwindows.views import tells
from holedwindows.words import words

WIDEST_FOR_A_ROW = 9


def masks_of(width):
    """Return the ascending list of all masks that are so wide."""
    if width == 1:
        return ["x"]
    return ["x" + inner + "x" for inner in words(".x", width - 2)]


def masks_to(width):
    """Return all masks that are at most so wide, the narrower ones first."""
    return [mask for narrow in range(1, width + 1) for mask in masks_of(narrow)]


def best_masks(many, width, letters):
    """Return the greatest length that such masks tell, and the masks that tell it."""
    check_number(many, 1, WIDEST)
    check_number(width, 1, WIDEST)
    check_letters(letters)
    check_great(width, many, letters)
    lengths = {mask: longest(mask, letters) for mask in masks_to(width) if mask.count("x") == many}
    best = max(lengths.values(), default=0)
    return best, [mask for mask in lengths if lengths[mask] == best]


def least_masks(row, width):
    """Return the masks at most so wide that tell the row and see the fewest places."""
    check_row(row)
    check_number(width, 1, WIDEST_FOR_A_ROW)
    told = [mask for mask in masks_to(min(width, len(row))) if tells(row, mask)]
    fewest = min([mask.count("x") for mask in told], default=0)
    return [mask for mask in told if mask.count("x") == fewest]
