"""Point [16]: views that differ in many letters."""

import unittest

from holedwindows.apart import apart_rows, longest_apart
from holedwindows.errors import BadLetters, BadMask, BadNumber, TooGreat
from holedwindows.longest import longest, longest_rows
from holedwindows.views import distance
from tests.checking import assert_bad_number, assert_order, assert_raises
from tests.values import (
    HUGE, NO_INTEGERS, NO_LETTERS, NO_MASKS, TOO_GREAT, masks, plain_pairs, plain_views, small_masks,
    strings, unlike_letters)

BOTH = [longest_apart, apart_rows]
# Pairs of a small mask and letters for which slow ways are quick enough.
QUICK = (
    [(mask, 1) for mask in small_masks(1, 6)] + [(mask, 2) for mask in small_masks(2, 6)]
    + [(mask, 3) for mask in small_masks(3)] + [(mask, 4) for mask in small_masks(4)])
# The masks for two letters that are as wide as can be.
WIDEST_OF_TWO = [mask for mask in small_masks(2) if len(mask) == 8]


def is_apart(row, mask, far):
    """Tell whether the views of any two places differ in so many letters."""
    told = plain_views(row, mask)
    return all(unlike_letters(told[one], told[other]) >= far for one, other in plain_pairs(row, mask))


def plain_apart(mask, signs, far):
    """Return what apart_rows tells, by making rows longer as long as they are apart."""
    rows = [""]
    while rows:
        last = rows
        rows = [row + sign for row in last for sign in signs if is_apart(row + sign, mask, far)]
    return last


class Examples(unittest.TestCase):
    def test_of_the_interface(self):
        self.assertEqual(
            [longest_apart("xx", 2, 1), longest_apart("xx", 2, 2), apart_rows("xx", 2, 2), apart_rows("xx", 2, 3)],
            [5, 3, ["aba", "bab"], ["aa", "ab", "ba", "bb"]])


class FarOfEachNumber(unittest.TestCase):
    def test_far_1_is_longest(self):
        for letters in (1, 2, 3, 4):
            for mask in small_masks(letters, 7):
                self.assertEqual(apart_rows(mask, letters, 1), longest_rows(mask, letters))
                self.assertEqual(longest_apart(mask, letters, 1), longest(mask, letters))
        for mask in WIDEST_OF_TWO[::5]:
            self.assertEqual(apart_rows(mask, 2, 1), longest_rows(mask, 2))
            self.assertEqual(longest_apart(mask, 2, 1), longest(mask, 2))

    def test_from_2_to_12(self):
        for mask, letters in QUICK:
            for far in range(2, 13):
                told = plain_apart(mask, "abcd"[:letters], far)
                self.assertEqual(apart_rows(mask, letters, far), told, (mask, letters, far))
                self.assertEqual(longest_apart(mask, letters, far), len(told[0]), (mask, letters, far))

    def test_more_than_the_mask_sees_places(self):
        for mask, letters in QUICK + [(mask, 2) for mask in WIDEST_OF_TWO[::4]]:
            for far in range(mask.count("x") + 1, 13):
                # One place stands alone, whatever is seen there.
                told = strings("abcd"[:letters], len(mask))
                self.assertEqual(
                    apart_rows(mask, letters, far), [row for row in told if len(row) == len(mask)])
                self.assertEqual(longest_apart(mask, letters, far), len(mask))

    def test_just_as_many_as_the_mask_sees_places(self):
        self.assertEqual(apart_rows("x", 2, 1), ["ab", "ba"])
        self.assertEqual(longest_apart("xx", 3, 2), 4)
        self.assertEqual(apart_rows("xx", 3, 2), plain_apart("xx", "abc", 2))
        self.assertEqual(apart_rows("xxxx", 2, 4), ["ababa", "babab"])

    def test_rows_of_three_letters_that_are_apart(self):
        for mask in ("xx", "x.x", "x..x", "x...x"):
            told = apart_rows(mask, 3, 2)
            self.assertEqual({len(row) for row in told}, {len(mask) + 2})
            # At no place may two of the views have the same letter.
            for row in told:
                for signs in zip(*plain_views(row, mask)):
                    self.assertEqual(sorted(signs), ["a", "b", "c"])

    def test_by_looking_at_each_string(self):
        for mask, letters, most in (("x", 2, 4), ("xx", 2, 7), ("x.x", 2, 7), ("xxx", 2, 8), ("xxxx", 2, 9),
                                    ("xx", 3, 6), ("x.x", 3, 6), ("x", 4, 5), ("xxx", 1, 5)):
            for far in (1, 2, 3, 4, 5):
                rows = [row for row in strings("abcd"[:letters], most) if is_apart(row, mask, far)]
                most_letters = max(len(row) for row in rows)
                if most_letters < most:
                    self.assertEqual(
                        apart_rows(mask, letters, far), [row for row in rows if len(row) == most_letters])

    def test_more_apart_is_never_longer(self):
        for mask, letters in QUICK + [(mask, 2) for mask in WIDEST_OF_TWO[::3]]:
            told = [longest_apart(mask, letters, far) for far in range(1, 13)]
            self.assertEqual(told, sorted(told, reverse=True), (mask, letters))


class MasksOfEachSize(unittest.TestCase):
    def test_1_letter(self):
        for mask in masks(9) + ["x" * 12, "x..........x", "xx.x.xx...xx"]:
            for far in (1, 2, 12):
                self.assertEqual(apart_rows(mask, 1, far), ["a" * len(mask)])
                self.assertEqual(longest_apart(mask, 1, far), len(mask))

    def test_the_greatest_for_2_letters(self):
        for mask in WIDEST_OF_TWO:
            for far in (2, 3, 4):
                told = plain_apart(mask, "ab", far)
                self.assertEqual(apart_rows(mask, 2, far), told, (mask, far))
                self.assertEqual(longest_apart(mask, 2, far), len(told[0]), (mask, far))

    def test_the_greatest_for_3_and_4_letters(self):
        self.assertEqual(longest_apart("x...x", 3, 1), 13)
        self.assertEqual(apart_rows("x...x", 3, 2), plain_apart("x...x", "abc", 2))
        self.assertEqual(longest_apart("x...x", 3, 3), 5)
        self.assertEqual(longest_apart("x", 4, 1), 4)
        self.assertEqual(apart_rows("x", 4, 2), ["a", "b", "c", "d"])
        self.assertEqual(longest_apart("x", 4, 12), 1)

    def test_the_rows_are_apart_and_ascend(self):
        for mask, letters in QUICK + [(mask, 2) for mask in WIDEST_OF_TWO]:
            for far in (2, 3, 4):
                rows = apart_rows(mask, letters, far)
                self.assertEqual(rows, sorted(set(rows)))
                for row in rows[::5]:
                    least = distance(row, mask)
                    self.assertTrue(least is None or least >= far, (row, mask, far))

    def test_kinds(self):
        self.assertIs(type(longest_apart("xx", 2, 2)), int)
        self.assertIs(type(apart_rows("xx", 2, 2)), list)


class WrongValues(unittest.TestCase):
    def test_no_mask(self):
        for at, value in enumerate(NO_MASKS):
            with self.subTest(at=at):
                for call in BOTH:
                    assert_raises(self, BadMask, call, [value, 2, 1])

    def test_no_letters(self):
        for at, value in enumerate(NO_LETTERS):
            with self.subTest(at=at):
                for call in BOTH:
                    assert_raises(self, BadLetters, call, ["x", value, 1])
                    assert_raises(self, BadLetters, call, ["x" * 12, value, 1])

    def test_masks_that_are_too_great(self):
        for mask, letters in TOO_GREAT:
            for call in BOTH:
                for far in (1, 2, 12):
                    self.assertEqual(vars(assert_raises(self, TooGreat, call, [mask, letters, far])), {})

    def test_far_beyond_1_to_12(self):
        for value in (0, -1, 13, 100, HUGE, -HUGE):
            for mask, letters in (("x", 1), ("x" * 12, 1), ("x.x", 2), ("xx", 3), ("x", 4)):
                for call in BOTH:
                    assert_bad_number(self, call, [mask, letters, value], value)

    def test_far_no_integer(self):
        for at, value in enumerate(NO_INTEGERS):
            with self.subTest(at=at):
                for call in BOTH:
                    assert_bad_number(self, call, ["x.x", 2, value], value)

    def test_several_wrong_values(self):
        for call in BOTH:
            assert_order(self, call, ["x.x", 2, 1], [("x.", BadMask), (0, BadLetters), (13, BadNumber)])
            assert_order(self, call, ["x", 4, 12], [(None, BadMask), (True, BadLetters), (False, BadNumber)])

    def test_too_great_and_another_one(self):
        for mask, letters in TOO_GREAT:
            for call in BOTH:
                for value in (0, 13, None, True):
                    assert_raises(self, TooGreat, call, [mask, letters, value])
        for call in BOTH:
            assert_raises(self, BadLetters, call, ["x" * 12, 5, 0])
            assert_raises(self, BadMask, call, ["x" * 13, 4, 0])


if __name__ == "__main__":
    unittest.main()
