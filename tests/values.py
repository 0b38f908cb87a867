"""Values that the tests share: right ones, wrong ones, and slow plain answers."""

from itertools import product

HUGE = 10 ** 5000

# No string at all, so no mask, no row and no look either.
NO_STRINGS = [
    None, True, False, 0, 1, -1, HUGE, (), [], {}, ("x",), ["x"], {"x": "x"}, ("a",), ["a"],
    {"a": "a"}, ["x", ".", "x"], ("x", ".", "x"), ["a", "b"], ("a", "b"), {"a": 1, "b": 2},
    [[]], (("a",),), {1: ["a"]},
]

NO_MASKS = NO_STRINGS + [
    "", ".", "..", "x.", ".x", ".x.", "x..", "..x", "X", "x.X", "xXx", "x x", " x", "x ", "x\n",
    "\nx", "x-x", "xax", "x?x", "a", "?", "x" * 13, "x" + "." * 11 + "x", "x" * 60,
]

NO_ROWS = NO_STRINGS + [
    "e", "A", "abe", "eab", "aeb", "aBa", "a b", " a", "a ", "a\n", "\na", "a?", "?", "x", ".",
    "a" * 61, "abcd" * 15 + "a", "a" * 100,
]

# For masks that see two places.
NO_LOOKS = NO_STRINGS + [
    "", "a", "?", "aba", "???", "ae", "ea", "AB", "a ", " a", "a\n", "a.", "x.", "xx", "a*", "ab ",
]

NO_INTEGERS = [
    None, True, False, "", "0", "1", "a", (), [], {}, (0,), [0], {0: 0}, (1, 2), [1, 2], {1: 2},
    [True], [[0], {"a": [1]}], ([1], 2),
]

# Every ASCII sign, and some that look like letters or signs of the document.
SIGNS = [chr(code) for code in range(128)] + list("\u0430\u0441\u0445\u00e4\uff41\u2024\ud800\U0001f7e8")


def strings(signs, most):
    """Return all strings of these signs with at most so many of them."""
    return ["".join(told) for length in range(most + 1) for told in product(signs, repeat=length)]


def masks(most):
    """Return all masks that are at most so wide."""
    return [text for text in strings("x.", most) if text[:1] == "x" and text[-1:] == "x"]


def plain_views(row, mask):
    """Return the views, letter by letter, as the document tells them."""
    found = []
    start = 0
    while start + len(mask) <= len(row):
        laid_on = row[start:start + len(mask)]
        view = ""
        for letter, sign in zip(laid_on, mask):
            if sign == "x":
                view += letter
        found.append(view)
        start += 1
    return found


def plain_pairs(row, mask):
    """Return all pairs of places (one, other), one < other, ascending."""
    many = len(plain_views(row, mask))
    return [(one, other) for one in range(many) for other in range(many) if one < other]


def unlike_letters(one, other):
    """Return in how many letters two strings of the same length differ."""
    return sum(1 for at in range(len(one)) if one[at] != other[at])
