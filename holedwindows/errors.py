"""The errors of the package, all directly under one base class."""


def parts_of(thing):
    """Return the list of what stands in a list, a tuple or the values of a dict."""
    return list(thing.values()) if isinstance(thing, dict) else list(thing)


def rebuilt(thing, parts):
    """Return a new list, tuple or dict like thing, with these parts in it."""
    if isinstance(thing, dict):
        return {key: part for key, part in zip(list(thing), parts)}
    return tuple(parts) if isinstance(thing, tuple) else parts


def copied(value):
    """Return a value equal to this one that shares no list and no dict with it."""
    # A stack instead of recursion: a wrong value may be nested as deep as it likes.
    waiting = [(value, False)]
    ready = []
    while waiting:
        thing, has_parts = waiting.pop()
        if not isinstance(thing, (list, tuple, dict)):
            ready.append(thing)
        elif has_parts:
            start = len(ready) - len(thing)
            parts = ready[start:]
            del ready[start:]
            ready.append(rebuilt(thing, parts))
        else:
            waiting.append((thing, True))
            waiting.extend([(part, False) for part in reversed(parts_of(thing))])
    return ready[0]


class WindowError(ValueError):
    """The base class of all errors of the package."""


class BadMask(WindowError):
    """A value is no mask."""


class BadRow(WindowError):
    """A value is no row, or not a row of the kind that is asked for."""


class BadView(WindowError):
    """A value is no look through the mask."""


class BadViews(WindowError):
    """The thing at this index is no look; None: there is no list of looks."""

    def __init__(self, index):
        WindowError.__init__(self, "not a list of looks")
        self.index = index


class BadLetters(WindowError):
    """A value is no number of letters."""


class BadNumber(WindowError):
    """The value n is no integer that may stand there."""

    def __init__(self, n):
        # No words about n itself: Python writes no integer of very many digits.
        WindowError.__init__(self, "not an integer that may stand here")
        # The caller may change a list later, the error must not change with it.
        self.n = copied(n)


class TooGreat(WindowError):
    """A mask is too wide, or sees too many places, for so many letters."""


class TooLong(WindowError):
    """A row has more letters than the most that are taken."""

    def __init__(self, most):
        WindowError.__init__(self, "too many letters")
        self.most = most


class TooMany(WindowError):
    """There are more things than the most that are taken."""

    def __init__(self, most):
        WindowError.__init__(self, "too many things")
        self.most = most


class BadPattern(WindowError):
    """A value is no pattern."""


class BadSteps(WindowError):
    """The thing at this index is no step; None: there is no list of so many steps."""

    def __init__(self, index):
        WindowError.__init__(self, "not a list of steps")
        self.index = index


class InvalidText(WindowError):
    """The word with this number, counted from 1, cannot stand in the text."""

    def __init__(self, word):
        WindowError.__init__(self, "not a text of a mask and a row")
        self.word = word
