"""Point [17]: rows that were not all read."""

import unittest
from itertools import product

from holedwindows.errors import BadLetters, BadMask, BadPattern, TooMany
from holedwindows.unread import fill_counts, first_filling, sure_letters
from holedwindows.views import tells
from tests.checking import assert_field, assert_order, assert_raises
from tests.values import (
    NO_LETTERS, NO_MASKS, NO_STRINGS, SIGNS, UNLIKE, masks, plain_tells, strings)

LONG = "abcd" * 15
ALL = [fill_counts, first_filling, sure_letters]
NO_PATTERNS = NO_STRINGS + [
    "e", "A", "abe", "e?", "?e", "a b", " ?", "? ", "a\n", "\n?", "x", ".", "x?x", "*", "a*a", "a" * 61,
    "?" * 61, "a" * 60 + "?", "?" + "a" * 60, "abcd" * 20,
]


def plain_rows(pattern, letters):
    """Return all rows that a pattern can be, by choosing letters for all signs at once."""
    places = [at for at, sign in enumerate(pattern) if sign == "?"]
    rows = []
    for chosen in product("abcd"[:letters], repeat=len(places)):
        row = list(pattern)
        for at, letter in zip(places, chosen):
            row[at] = letter
        rows.append("".join(row))
    return rows


def plain_answers(pattern, mask, letters):
    """Return what the three functions tell."""
    rows = plain_rows(pattern, letters)
    told = [row for row in rows if plain_tells(row, mask)]
    if not told:
        return [(0, len(rows)), None, None]
    sure = "".join(
        told[0][at] if all(row[at] == told[0][at] for row in told) else "?" for at in range(len(pattern)))
    return [(len(told), len(rows)), min(told), sure]


def answers(pattern, mask, letters):
    """Return what the three functions tell."""
    return [call(pattern, mask, letters) for call in ALL]


class Examples(unittest.TestCase):
    def test_the_first_of_the_interface(self):
        self.assertEqual(
            [fill_counts("a?a", "xx", 2), first_filling("a?a", "xx", 2), sure_letters("a?a", "xx", 2),
             sure_letters("??", "xx", 2)],
            [(1, 2), "aba", "aba", "??"])

    def test_the_second_of_the_interface(self):
        self.assertEqual(
            [fill_counts("aaa", "xx", 2), first_filling("aaa", "xx", 2), sure_letters("aaa", "xx", 2)],
            [(0, 1), None, None])


class Patterns(unittest.TestCase):
    def test_of_all_small_patterns(self):
        for letters, signs, most, width in ((1, "a?", 6, 4), (2, "ab?", 5, 4), (3, "ac?", 4, 3), (4, "ad?", 4, 3)):
            for pattern in strings(signs, most):
                for mask in masks(width):
                    self.assertEqual(
                        answers(pattern, mask, letters), plain_answers(pattern, mask, letters),
                        (pattern, mask, letters))

    def test_no_letter_that_was_not_read(self):
        for row in strings("abcd", 4) + [UNLIKE, LONG]:
            for mask in ("x", "xx", "x.x", "xxx"):
                for letters in (1, 4):
                    told = plain_tells(row, mask)
                    self.assertEqual(
                        answers(row, mask, letters),
                        [(1, 1), row, row] if told else [(0, 1), None, None])

    def test_six_letters_that_were_not_read(self):
        for pattern in ("??????", "a??????b", "?a?b?a?b?a?b", "???aaa???", "abba??????", "ab?ba?ab?ba?ab?ba?"):
            for mask in ("x", "xx", "x.x", "xxx", "xx.x", "xxxxx", "x" * 12):
                for letters in (1, 2):
                    self.assertEqual(
                        answers(pattern, mask, letters), plain_answers(pattern, mask, letters),
                        (pattern, mask, letters))
        for letters in (3, 4):
            self.assertEqual(answers("??????", "xx", letters), plain_answers("??????", "xx", letters))
        self.assertEqual(fill_counts("??????", "x" * 12, 4), (4096, 4096))
        self.assertEqual(fill_counts("??????", "x", 4), (0, 4096))
        self.assertEqual(first_filling("??????", "x" * 12, 4), "aaaaaa")
        self.assertEqual(sure_letters("??????", "x" * 12, 4), "??????")

    def test_letters_beyond_the_first_so_many(self):
        self.assertEqual(answers("d?", "x", 1), [(1, 1), "da", "da"])
        self.assertEqual(answers("a?", "x", 1), [(0, 1), None, None])
        self.assertEqual(answers("?c?", "x", 2), [(2, 4), "acb", "?c?"])
        self.assertEqual(answers("b?dc", "x", 2), [(1, 2), "badc", "badc"])
        self.assertEqual(answers("dcba", "x", 1), [(1, 1), "dcba", "dcba"])
        self.assertEqual(answers("ddd", "x", 1), [(0, 1), None, None])
        for pattern in ("d??", "?d?c", "?c?d?", "cd?dc", "d?d?d?"):
            for letters in (1, 2, 3):
                for mask in masks(3):
                    self.assertEqual(answers(pattern, mask, letters), plain_answers(pattern, mask, letters))

    def test_none_that_is_told(self):
        self.assertEqual(answers("aaa?", "xx", 4), [(0, 4), None, None])
        self.assertEqual(answers("?????", "x", 4), [(0, 1024), None, None])
        self.assertEqual(answers("??", "x", 1), [(0, 1), None, None])
        self.assertEqual(answers("?" + LONG[1:], "x", 4), [(0, 4), None, None])

    def test_the_empty_pattern(self):
        for letters in (1, 2, 3, 4):
            for mask in ("x", "x.x", "x" * 12):
                self.assertEqual(answers("", mask, letters), [(1, 1), "", ""])

    def test_patterns_of_60_signs(self):
        for at in (0, 20, 54):
            pattern = UNLIKE[:at] + "??????" + UNLIKE[at + 6:]
            for letters in (1, 2):
                self.assertEqual(
                    answers(pattern, "xxx", letters), plain_answers(pattern, "xxx", letters))
        pattern = UNLIKE[:30] + "?" + UNLIKE[31:59] + "?"
        self.assertEqual(len(pattern), 60)
        self.assertEqual(answers(pattern, "xxx", 4), plain_answers(pattern, "xxx", 4))
        self.assertIsNotNone(first_filling(pattern, "xxx", 4))

    def test_one_letter_that_all_have_in_common(self):
        self.assertEqual(sure_letters("a?b", "xx", 2), "a?b")
        self.assertEqual(sure_letters("aab?", "xx", 2), "aab?")
        self.assertEqual(answers("?ba?", "xx", 2), plain_answers("?ba?", "xx", 2))
        self.assertEqual(answers("aa?a", "xx", 2), [(1, 2), "aaba", "aaba"])
        self.assertEqual(answers("ab?", "x", 3), [(1, 3), "abc", "abc"])
        self.assertEqual(answers("?b?", "x", 3), [(2, 9), "abc", "?b?"])
        self.assertEqual(answers("abb?b", "x.x", 2), plain_answers("abb?b", "x.x", 2))

    def test_kinds(self):
        counts = fill_counts("a?a", "xx", 2)
        self.assertEqual([type(counts), type(counts[0]), type(counts[1])], [tuple, int, int])
        self.assertIs(type(first_filling("a?a", "xx", 2)), str)
        self.assertIs(type(sure_letters("a?a", "xx", 2)), str)

    def test_what_is_sure_is_itself_a_pattern_of_the_same_rows(self):
        for pattern in strings("ab?", 4):
            for mask in masks(3):
                sure = sure_letters(pattern, mask, 2)
                if sure is not None:
                    self.assertEqual(fill_counts(sure, mask, 2)[0], fill_counts(pattern, mask, 2)[0])
                    self.assertIs(tells(first_filling(pattern, mask, 2), mask), True)


class WrongValues(unittest.TestCase):
    def test_no_pattern(self):
        for at, value in enumerate(NO_PATTERNS):
            with self.subTest(at=at):
                for call in ALL:
                    self.assertEqual(vars(assert_raises(self, BadPattern, call, [value, "x.x", 2])), {})

    def test_other_signs(self):
        for sign in SIGNS:
            if sign not in "abcd?":
                for pattern in (sign, "a" + sign, sign + "?", "?" + sign + "a"):
                    assert_raises(self, BadPattern, fill_counts, [pattern, "x.x", 2])

    def test_no_mask(self):
        for at, value in enumerate(NO_MASKS):
            with self.subTest(at=at):
                for call in ALL:
                    assert_raises(self, BadMask, call, ["a?", value, 2])
                    assert_raises(self, BadMask, call, ["", value, 2])

    def test_no_letters(self):
        for at, value in enumerate(NO_LETTERS):
            with self.subTest(at=at):
                for call in ALL:
                    assert_raises(self, BadLetters, call, ["a?", "x", value])
                    assert_raises(self, BadLetters, call, ["", "x", value])

    def test_more_than_six_that_were_not_read(self):
        for many in (7, 8, 59, 60):
            for call in ALL:
                for letters in (1, 2, 3, 4):
                    assert_field(self, TooMany, call, ["?" * many, "x", letters], "most", 6)
        for pattern in ("a???????", "???????a", "?a?a?a?a?a?a?", "aaaaaaaa???????", "?" * 7 + "a" * 53):
            for call in ALL:
                assert_field(self, TooMany, call, [pattern, "x.x", 2], "most", 6)

    def test_masks_are_not_too_great(self):
        self.assertEqual(answers("abcd?", "x" * 12, 4)[0], (4, 4))

    def test_several_wrong_values(self):
        for call in ALL:
            for pattern in ("e", "a" * 61, None, "?" * 61, "e???????"):
                assert_order(
                    self, call, ["a?", "x.x", 2], [(pattern, BadPattern), ("x.", BadMask), (5, BadLetters)])
                assert_order(
                    self, call, ["", "x", 1], [(pattern, BadPattern), (None, BadMask), (True, BadLetters)])

    def test_too_many_comes_last(self):
        for call in ALL:
            assert_order(
                self, call, ["a?", "x.x", 2], [("?" * 7, TooMany), ("x" * 13, BadMask), (0, BadLetters)],
                [1, 2, 0])


if __name__ == "__main__":
    unittest.main()
