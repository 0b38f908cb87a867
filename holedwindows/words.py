"""Strings of given signs."""


def words(signs, many):
    """Return all strings of so many of the signs, in the order of the signs."""
    found = [""]
    for _ in range(many):
        found = [word + sign for word in found for sign in signs]
    return found


def in_common(found, unlike):
    """Return the signs that all strings of one length have, another one where they differ."""
    return "".join([signs[0] if len(set(signs)) == 1 else unlike for signs in zip(*found)])
