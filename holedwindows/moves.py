"""Looks from places that lie apart by known steps."""

from holedwindows.checks import (
    FARTHEST_STEP, MOST_LOOKS, check_looks, check_number, check_steps)
from holedwindows.finding import looks_needed, runs_at, starts_of
from holedwindows.views import all_unlike, views


def offsets_by(steps):
    """Return how far from the first place each look is taken, the first one ahead of all."""
    offsets = [0]
    for step in steps:
        offsets.append(offsets[-1] + step)
    return offsets


def starts_by(row, mask, looks, steps):
    """Return the first places from which the looks, by steps, can have been taken."""
    found = views(row, mask)
    check_looks(looks, mask)
    check_steps(steps, len(looks) - 1, len(looks) - 1)
    return starts_of(found, looks, offsets_by(steps))


def steps_tell(row, mask, steps):
    """Tell whether the tuples of the views, by steps, are unlike for all first places."""
    found = views(row, mask)
    check_steps(steps, 0, MOST_LOOKS - 1)
    return all_unlike(runs_at(found, offsets_by(steps)))


def strided(row, mask, step):
    """Return how many looks, each so far on from the last one, tell each first place."""
    found = views(row, mask)
    check_number(step, 1, FARTHEST_STEP)
    return looks_needed(found, step)
