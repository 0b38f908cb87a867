"""Masks: windows with holes."""

from holedwindows.checks import WIDEST, check_mask, check_number


def seen(mask):
    """Return the ascending list of the places that the mask lets see."""
    check_mask(mask)
    return [place for place, sign in enumerate(mask) if sign == "x"]


def together(one, other, far):
    """Return the mask that sees what one sees, or other laid on so far behind."""
    check_mask(one)
    check_mask(other)
    check_number(far, 0, WIDEST - len(other))
    places = seen(one) + [far + place for place in seen(other)]
    width = max(len(one), far + len(other))
    return "".join(["x" if place in places else "." for place in range(width)])
