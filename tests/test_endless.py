"""Point [19]: rows that are repeated without end."""

import unittest

from holedwindows.endless import first_again, told_to, view_far
from holedwindows.errors import BadMask, BadNumber, BadRow
from holedwindows.rings import ring_tells, ring_views
from tests.checking import assert_bad_number, assert_order, assert_raises
from tests.values import (
    HUGE, NO_INTEGERS, NO_MASKS, NO_ROWS, UNLIKE, masks, plain_tells, plain_views, strings)

LONG = "abcd" * 15
FARTHEST = 10 ** 30
OF_ROW_AND_MASK = [first_again, told_to]
SMALL = [
    (row, mask) for row in strings("ab", 7)[1:] + strings("acd", 4)[1:]
    for mask in masks(4) + ["xx...x", "x......x", "x" * 12, "x..........x"]]
GREAT = [
    (row, mask) for row in (LONG, UNLIKE, "a" * 60, "a" * 59 + "b", "ab" * 30, UNLIKE[:59])
    for mask in ("x", "xx", "x.x", "xxx", "xxxx", "x" * 12, "x..........x")]


def repeated(row, many):
    """Return so many letters of a row that is repeated."""
    text = row
    while len(text) < many:
        text = text + row
    return text[:many]


def plain_again(row, mask):
    """Return what first_again tells, by looking at one place after the other."""
    told = plain_views(repeated(row, 2 * len(row) + len(mask)), mask)
    for other in range(len(told)):
        for one in range(other):
            if told[one] == told[other]:
                return one, other
    return None


def plain_told_to(row, mask):
    """Return what told_to tells, by making the beginning longer."""
    length = 0
    while plain_tells(repeated(row, length + 1), mask):
        length += 1
    return length


class Examples(unittest.TestCase):
    def test_of_the_interface(self):
        self.assertEqual(
            [first_again("ab", "x"), told_to("ab", "x"), first_again("aab", "xx"), told_to("aab", "xx"),
             view_far("aab", "x.x", 10 ** 30)],
            [(0, 2), 2, (0, 3), 4, "aa"])


class FirstAgain(unittest.TestCase):
    def test_the_least_place_whose_view_comes_again(self):
        self.assertEqual(first_again("abcb", "x"), (1, 3))
        self.assertEqual(first_again("abcbc", "x"), (1, 3))
        self.assertEqual(first_again("abba", "x"), (1, 2))
        self.assertEqual(first_again("abba", "xx"), (0, 4))
        self.assertEqual(first_again("dabcabd", "xx"), (1, 4))

    def test_views_that_go_on_with_the_first_letters_again(self):
        self.assertEqual(first_again("aba", "xx"), (0, 3))
        self.assertEqual(first_again("abab", "xx"), (0, 2))
        self.assertEqual(first_again("ababa", "xx"), (0, 2))
        self.assertEqual(first_again("abc", "x.x"), (0, 3))
        self.assertEqual(first_again("aabb", "x..x"), (0, 4))

    def test_rows_of_one_letter(self):
        for letter in "abcd":
            for mask in ("x", "xx", "x.x", "x" * 12, "x..........x"):
                self.assertEqual(first_again(letter, mask), (0, 1))
                self.assertEqual(told_to(letter, mask), len(mask))
                self.assertEqual(view_far(letter, mask, 0), letter * mask.count("x"))
                self.assertEqual(view_far(letter, mask, FARTHEST), letter * mask.count("x"))

    def test_masks_wider_than_the_row(self):
        self.assertEqual(first_again("ab", "xxx"), (0, 2))
        self.assertEqual(first_again("ab", "x" * 12), (0, 2))
        self.assertEqual(first_again("aab", "x..x"), (0, 1))
        self.assertEqual(first_again("abb", "x..........x"), (0, 3))
        self.assertEqual(first_again("abcda", "x.....x"), (0, 5))

    def test_a_place_is_at_most_as_far_as_the_row_is_long(self):
        for row, mask in SMALL + GREAT:
            one, other = first_again(row, mask)
            self.assertLess(one, other)
            self.assertLessEqual(other, len(row))

    def test_of_many_rows(self):
        for row, mask in SMALL + GREAT:
            self.assertEqual(first_again(row, mask), plain_again(row, mask), (row, mask))

    def test_a_ring_that_is_told(self):
        for row, mask in SMALL:
            self.assertIs(first_again(row, mask) == (0, len(row)), ring_tells(row, mask))

    def test_kinds(self):
        told = first_again("ab", "x")
        self.assertEqual([type(told), type(told[0]), type(told[1])], [tuple, int, int])
        self.assertIs(type(told_to("ab", "x")), int)
        self.assertIs(type(view_far("ab", "x", 0)), str)


class ToldTo(unittest.TestCase):
    def test_of_ordinary_rows(self):
        self.assertEqual(told_to("abcd", "x"), 4)
        self.assertEqual(told_to("abcb", "x"), 3)
        self.assertEqual(told_to("aabb", "xx"), 5)
        self.assertEqual(told_to("aaab", "xx"), 2)

    def test_beyond_the_end_of_the_row(self):
        self.assertEqual(told_to("ab", "x" * 12), 13)
        self.assertEqual(told_to("abc", "x.x"), 5)
        self.assertEqual(told_to("a", "xx"), 2)
        self.assertEqual(told_to("aaababbb", "xxx"), 10)
        # More letters than a row can have.
        self.assertEqual(told_to("a" * 59 + "b", "x" * 12), 12)
        self.assertEqual(told_to(UNLIKE, "x" * 12), 71)
        self.assertEqual(told_to(UNLIKE[:50], "x" * 12), 61)

    def test_of_many_rows(self):
        for row, mask in SMALL + GREAT:
            self.assertEqual(told_to(row, mask), plain_told_to(row, mask), (row, mask))


class ViewFar(unittest.TestCase):
    def test_places_0_and_those_in_the_row(self):
        self.assertEqual(view_far("abcd", "x.x", 0), "ac")
        self.assertEqual(view_far("abcd", "x.x", 1), "bd")
        self.assertEqual(view_far("abcd", "x.x", 2), "ca")
        self.assertEqual(view_far("abcd", "x.x", 3), "db")

    def test_the_length_of_the_row_is_the_first_place_again(self):
        for row, mask in SMALL[::5] + GREAT:
            for place in (0, 1, len(row) - 1):
                told = view_far(row, mask, place)
                self.assertEqual(view_far(row, mask, place + len(row)), told)
                self.assertEqual(view_far(row, mask, place + 7 * len(row)), told)

    def test_of_many_rows(self):
        for row, mask in SMALL[::3] + GREAT:
            told = plain_views(repeated(row, 3 * len(row) + len(mask)), mask)
            for place in range(0, 3 * len(row), 1 if len(row) < 8 else 13):
                self.assertEqual(view_far(row, mask, place), told[place], (row, mask, place))

    def test_places_within_the_row_are_those_of_a_ring(self):
        for row, mask in SMALL[::4]:
            self.assertEqual([view_far(row, mask, place) for place in range(len(row))], ring_views(row, mask))

    def test_the_farthest_places(self):
        for row, mask in SMALL[::7] + GREAT:
            for place in (FARTHEST, FARTHEST - 1, 10 ** 18 + 1, 2 ** 64 - 1):
                # So many whole rows ahead of it change nothing.
                near = place % len(row)
                told = plain_views(repeated(row, 2 * len(row) + len(mask)), mask)[near]
                self.assertEqual(view_far(row, mask, place), told, (row, mask, place))


class WrongValues(unittest.TestCase):
    def test_no_row(self):
        for at, value in enumerate(NO_ROWS + [""]):
            with self.subTest(at=at):
                for call in OF_ROW_AND_MASK:
                    self.assertEqual(vars(assert_raises(self, BadRow, call, [value, "x.x"])), {})
                assert_raises(self, BadRow, view_far, [value, "x.x", 0])

    def test_no_mask(self):
        for at, value in enumerate(NO_MASKS):
            with self.subTest(at=at):
                for call in OF_ROW_AND_MASK:
                    assert_raises(self, BadMask, call, ["abab", value])
                assert_raises(self, BadMask, view_far, ["a", value, 0])

    def test_places_beyond_0_to_the_farthest(self):
        for value in (-1, -FARTHEST, FARTHEST + 1, 10 ** 31, HUGE, -HUGE):
            for row in ("a", "abab", LONG):
                assert_bad_number(self, view_far, [row, "x.x", value], value)

    def test_place_no_integer(self):
        for at, value in enumerate(NO_INTEGERS):
            with self.subTest(at=at):
                assert_bad_number(self, view_far, ["abab", "x.x", value], value)

    def test_several_wrong_values(self):
        for row in ("", "abe", None, "a" * 61):
            for mask in ("x.", "", None, "x" * 13):
                for call in OF_ROW_AND_MASK:
                    assert_order(self, call, ["abab", "x.x"], [(row, BadRow), (mask, BadMask)])
                for place in (-1, FARTHEST + 1, None, True):
                    assert_order(
                        self, view_far, ["abab", "x.x", 0],
                        [(row, BadRow), (mask, BadMask), (place, BadNumber)])


if __name__ == "__main__":
    unittest.main()
