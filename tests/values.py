"""Values that the tests share: right ones, wrong ones, and slow plain answers."""

from itertools import product

HUGE = 10 ** 5000

# No string at all, so no mask, no row and no look either.
NO_STRINGS = [
    None, True, False, 0, 1, -1, HUGE, (), [], {}, ("x",), ["x"], {"x": "x"}, ("a",), ["a"],
    {"a": "a"}, ["x", ".", "x"], ("x", ".", "x"), ["a", "b"], ("a", "b"), {"a": 1, "b": 2},
    [[]], (("a",),), {1: ["a"]},
]

NO_MASKS = NO_STRINGS + [
    "", ".", "..", "x.", ".x", ".x.", "x..", "..x", "X", "x.X", "xXx", "x x", " x", "x ", "x\n",
    "\nx", "x-x", "xax", "x?x", "a", "?", "x" * 13, "x" + "." * 11 + "x", "x" * 60,
]

NO_ROWS = NO_STRINGS + [
    "e", "A", "abe", "eab", "aeb", "aBa", "a b", " a", "a ", "a\n", "\na", "a?", "?", "x", ".",
    "a" * 61, "abcd" * 15 + "a", "a" * 100,
]

# For masks that see two places.
NO_LOOKS = NO_STRINGS + [
    "", "a", "?", "aba", "???", "ae", "ea", "AB", "a ", " a", "a\n", "a.", "x.", "xx", "a*", "ab ",
]

NO_INTEGERS = [
    None, True, False, "", "0", "1", "a", (), [], {}, (0,), [0], {0: 0}, (1, 2), [1, 2], {1: 2},
    [True], [[0], {"a": [1]}], ([1], 2),
]

NO_LETTERS = NO_INTEGERS + [0, 5, 6, 12, -1, -4, HUGE, -HUGE, "ab", "abcd", ("a", "b"), ["a", "b"]]

# For masks that see two places.
NO_LISTS_OF_LOOKS = [
    None, True, False, 0, 1, HUGE, "", "a", "ab", "abab", "ab,ab", {}, {"ab": "ab"}, {0: "ab"}, [], (),
    ["ab"] * 61, ("ab",) * 61, ["ab"] * 100, [None] * 61,
]

# For so many letters: how wide a small mask is at most, how many places it sees.
GREATEST = {1: (12, 12), 2: (8, 4), 3: (5, 2), 4: (4, 1)}

# Masks one sign wider than the greatest ones, or seeing one place more, and such beyond.
TOO_GREAT = [
    ("x.......x", 2), ("x.x...x.x", 2), ("xxxxx", 2), ("x.xxxx", 2), ("xxx..xxx", 2), ("x" * 8, 2),
    ("x" * 12, 2), ("x..........x", 2), ("x....x", 3), ("xxx", 3), ("x.xx", 3), ("xx..x", 3),
    ("xxxxx", 3), ("x..........x", 3), ("xx", 4), ("x.x", 4), ("x..x", 4), ("x...x", 4), ("xxxx", 4),
    ("x" * 12, 4),
]

# A row of 60 letters of which the views through a mask of three open signs are unlike.
UNLIKE = "aaabaacaadabbabcabdacbaccacdadbadcaddbbbcbbdbccbcdbdcbddcccd"

# Every ASCII sign, and some that look like letters or signs of the document.
SIGNS = [chr(code) for code in range(128)] + list("\u0430\u0441\u0445\u00e4\uff41\u2024\ud800\U0001f7e8")


def strings(signs, most):
    """Return all strings of these signs with at most so many of them."""
    return ["".join(told) for length in range(most + 1) for told in product(signs, repeat=length)]


def masks(most):
    """Return all masks that are at most so wide."""
    return [text for text in strings("x.", most) if text[:1] == "x" and text[-1:] == "x"]


def many_pairs():
    """Return pairs of many rows and masks, with rows of 60 letters and masks of 12 signs."""
    return (
        [(row, mask) for row in strings("ab", 7) + strings("abcd", 4)[::2] for mask in masks(5)]
        + [(UNLIKE[:length], mask) for length in range(0, 61, 5)
           for mask in masks(7) + ["x" * 12, "x..........x"]]
        + [("abcd" * 15, mask) for mask in masks(5) + ["x" * 12]])


def small_masks(letters, most=12):
    """Return all masks that are small for so many letters, and at most so wide."""
    width, many = GREATEST[letters]
    return [mask for mask in masks(min(width, most)) if mask.count("x") <= many]


def plain_views(row, mask):
    """Return the views, letter by letter, as the document tells them."""
    found = []
    start = 0
    while start + len(mask) <= len(row):
        laid_on = row[start:start + len(mask)]
        view = ""
        for letter, sign in zip(laid_on, mask):
            if sign == "x":
                view += letter
        found.append(view)
        start += 1
    return found


def plain_pairs(row, mask):
    """Return all pairs of places (one, other), one < other, ascending."""
    many = len(plain_views(row, mask))
    return [(one, other) for one in range(many) for other in range(many) if one < other]


def unlike_letters(one, other):
    """Return in how many letters two strings of the same length differ."""
    return sum(1 for at in range(len(one)) if one[at] != other[at])


def plain_tells(row, mask):
    """Tell whether no two places have like views, by comparing all of them."""
    told = plain_views(row, mask)
    return all(told[one] != told[other] for one, other in plain_pairs(row, mask))


def plain_told(mask, signs, length):
    """Return all strings of this length that the mask tells, by looking at each string."""
    return [
        row for row in map("".join, product(signs, repeat=length)) if plain_tells(row, mask)]


def plain_farthest(row, mask, signs):
    """Return the longest strings that begin with a told one and are told, letter by letter."""
    rows = [row]
    while rows:
        last = rows
        rows = [
            longer + sign for longer in last for sign in signs if plain_last_is_new(longer + sign, mask)]
    return last


def plain_last_is_new(row, mask):
    """Tell whether the last view is unlike all others."""
    told = plain_views(row, mask)
    return not told or told[-1] not in told[:-1]


def plain_ring_views(row, mask):
    """Return the views from all places of a ring, which is laid out as often as needed."""
    laid_out = row
    while len(laid_out) < len(row) + len(mask) - 1:
        laid_out += row
    return plain_views(laid_out, mask)[:len(row)]


def plain_ring_tells(row, mask):
    """Tell whether all views of a ring are unlike, by counting each of them."""
    told = plain_ring_views(row, mask)
    return all(told.count(view) == 1 for view in told)


def turned(row):
    """Return all rows that begin at one of the places of a ring."""
    return [row[at:] + row[:at] for at in range(len(row))]
