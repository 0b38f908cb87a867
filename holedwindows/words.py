"""Strings of given signs."""


def words(signs, many):
    """Return all strings of so many of the signs, in the order of the signs."""
    found = [""]
    for _ in range(many):
        found = [word + sign for word in found for sign in signs]
    return found
