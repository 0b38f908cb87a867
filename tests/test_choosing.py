"""Point [8]: masks that tell most, or see least."""

import unittest

from holedwindows.choosing import best_masks, least_masks
from holedwindows.errors import BadLetters, BadNumber, BadRow, TooGreat
from tests.checking import assert_bad_number, assert_order, assert_raises
from tests.values import (
    GREATEST, HUGE, NO_INTEGERS, NO_LETTERS, NO_ROWS, UNLIKE, masks, plain_farthest, plain_tells,
    strings)

LONG = "abcd" * 15
# The masks of each width from 1 to 9, ascending.
MASKS = {width: sorted(mask for mask in masks(9) if len(mask) == width) for width in range(1, 10)}


def in_order(width):
    """Return all masks at most so wide, the narrower ones first, then ascending."""
    return [mask for narrow in range(1, width + 1) for mask in MASKS[narrow]]


def plain_best(many, width, letters):
    """Return what best_masks tells, by making the rows of each mask longer."""
    chosen = [mask for mask in in_order(width) if mask.count("x") == many]
    told = [len(plain_farthest("", mask, "abcd"[:letters])[0]) for mask in chosen]
    most = max(told, default=0)
    return most, [mask for mask, length in zip(chosen, told) if length == most]


def plain_least(row, width):
    """Return what least_masks tells, by looking at each mask."""
    told = [mask for mask in in_order(width) if len(mask) <= len(row) and plain_tells(row, mask)]
    return [mask for mask in told if all(mask.count("x") <= other.count("x") for other in told)]


class Examples(unittest.TestCase):
    def test_of_the_interface(self):
        self.assertEqual(
            [best_masks(2, 4, 2), best_masks(3, 2, 2), least_masks("abbab", 3), least_masks("aaa", 2),
             least_masks("ab", 1)],
            [(7, ["x..x"]), (0, []), ["x.x"], [], ["x"]])


class BestMasks(unittest.TestCase):
    def test_of_narrow_masks(self):
        for letters, most in ((1, 6), (2, 6), (3, 4), (4, 4)):
            for width in range(1, most + 1):
                for many in range(1, min(most, GREATEST[letters][1]) + 1):
                    # plain_best is slow for these.
                    if (many, width, letters) == (4, 6, 2):
                        continue
                    self.assertEqual(
                        best_masks(many, width, letters), plain_best(many, width, letters),
                        (many, width, letters))

    def test_the_greatest_for_1_letter(self):
        self.assertEqual(best_masks(12, 12, 1), (12, ["x" * 12]))
        self.assertEqual(best_masks(2, 12, 1), (12, ["x..........x"]))
        self.assertEqual(best_masks(1, 12, 1), (1, ["x"]))
        length, told = best_masks(6, 12, 1)
        self.assertEqual(length, 12)
        self.assertEqual(
            told, sorted(mask for mask in masks(12) if len(mask) == 12 and mask.count("x") == 6))

    def test_the_greatest_for_2_letters(self):
        # Each of the widest ones has as many unlike views as there can be.
        self.assertEqual(
            best_masks(4, 8, 2), (23, [mask for mask in MASKS[8] if mask.count("x") == 4]))
        self.assertEqual(best_masks(4, 4, 2), (19, ["xxxx"]))
        self.assertEqual(best_masks(2, 8, 2), (11, ["x......x"]))
        self.assertEqual(best_masks(1, 8, 2), (2, ["x"]))

    def test_the_greatest_for_3_letters(self):
        self.assertEqual(best_masks(2, 5, 3), (13, ["x...x"]))
        self.assertEqual(best_masks(1, 5, 3), (3, ["x"]))

    def test_the_greatest_for_4_letters(self):
        self.assertEqual(best_masks(1, 4, 4), (4, ["x"]))
        self.assertEqual(best_masks(1, 1, 4), (4, ["x"]))

    def test_masks_that_tell_less_are_left_out(self):
        length, told = best_masks(3, 6, 2)
        self.assertEqual((length, told), plain_best(3, 6, 2))
        self.assertLess(len(told), len([mask for mask in in_order(6) if mask.count("x") == 3]))

    def test_no_such_mask(self):
        for many, width, letters in ((2, 1, 1), (12, 11, 1), (3, 2, 2), (4, 3, 2), (2, 1, 3)):
            self.assertEqual(best_masks(many, width, letters), (0, []))

    def test_the_kinds_of_the_pair(self):
        told = best_masks(2, 4, 2)
        self.assertEqual([type(told), type(told[0]), type(told[1])], [tuple, int, list])


class LeastMasks(unittest.TestCase):
    def test_of_all_small_rows(self):
        for row in strings("ab", 6) + strings("acd", 4):
            for width in range(1, 10):
                self.assertEqual(least_masks(row, width), plain_least(row, width), (row, width))

    def test_the_narrower_ones_first_and_those_of_a_width_ascending(self):
        self.assertEqual(least_masks("aabb", 9), ["xx", "x..x"])
        self.assertEqual(least_masks("abaab", 9), ["x.x", "x..x", "x...x"])
        self.assertEqual(least_masks("aaabbb", 5), ["xxx", "x.x.x"])
        self.assertEqual(least_masks("aaabbb", 9), ["x....x"])
        self.assertEqual(least_masks("aaaaaabaa", 8), ["x....xx", "x...x.x", "x.....xx", "x....x.x"])
        self.assertEqual(
            least_masks("aaabaabbbababa", 7),
            ["xxx.x", "xx..xx", "xxx..x", "x...xxx", "x..xx.x", "x.x.x.x"])

    def test_masks_as_wide_as_the_row_and_no_wider(self):
        self.assertEqual(least_masks("aa", 2), ["xx"])
        self.assertEqual(least_masks("aa", 9), ["xx"])
        self.assertEqual(least_masks("a" * 9, 9), ["x.......x"])
        self.assertEqual(least_masks("a" * 9, 8), [])
        self.assertEqual(least_masks("a" * 10, 9), [])

    def test_rows_of_no_letter_and_of_one(self):
        for width in range(1, 10):
            self.assertEqual(least_masks("", width), [])
            self.assertEqual(least_masks("d", width), ["x"])

    def test_rows_of_60_letters(self):
        self.assertEqual(least_masks(LONG, 9), [])
        self.assertEqual(least_masks(UNLIKE, 3), ["xxx"])
        self.assertEqual(least_masks(UNLIKE, 2), [])
        self.assertEqual(least_masks(UNLIKE, 9), plain_least(UNLIKE, 9))

    def test_widths_of_1_and_of_9(self):
        self.assertEqual(least_masks("abca", 1), [])
        self.assertEqual(least_masks("abcd", 1), ["x"])
        row = "abaabbbabaabba"
        self.assertEqual(least_masks(row, 9), plain_least(row, 9))
        self.assertEqual(least_masks(row, 8), plain_least(row, 8))


class WrongValues(unittest.TestCase):
    def test_many_and_width_beyond_1_to_12(self):
        for value in (0, 13, -1, 60, HUGE, -HUGE):
            for letters in (1, 2, 3, 4):
                assert_bad_number(self, best_masks, [value, 1, letters], value)
                assert_bad_number(self, best_masks, [1, value, letters], value)

    def test_many_and_width_no_integers(self):
        for at, value in enumerate(NO_INTEGERS):
            with self.subTest(at=at):
                assert_bad_number(self, best_masks, [value, 4, 2], value)
                assert_bad_number(self, best_masks, [2, value, 2], value)

    def test_no_letters(self):
        for at, value in enumerate(NO_LETTERS):
            with self.subTest(at=at):
                assert_raises(self, BadLetters, best_masks, [1, 1, value])
                assert_raises(self, BadLetters, best_masks, [12, 12, value])

    def test_too_great(self):
        for letters in (2, 3, 4):
            width, many = GREATEST[letters]
            for more in range(width + 1, 13):
                self.assertEqual(vars(assert_raises(self, TooGreat, best_masks, [1, more, letters])), {})
            for more in range(many + 1, 13):
                # Also where no mask that is so narrow sees so many.
                for narrow in (1, width):
                    assert_raises(self, TooGreat, best_masks, [more, narrow, letters])
            assert_raises(self, TooGreat, best_masks, [many + 1, width + 1, letters])

    def test_not_too_great(self):
        for letters in (1, 2, 3, 4):
            width, many = GREATEST[letters]
            self.assertGreater(best_masks(1, width, letters)[0], 0)
            self.assertGreaterEqual(best_masks(many, 1, letters)[0], 0)

    def test_no_row(self):
        for at, value in enumerate(NO_ROWS):
            with self.subTest(at=at):
                assert_raises(self, BadRow, least_masks, [value, 3])

    def test_width_beyond_1_to_9(self):
        for value in (0, 10, 12, -1, HUGE, -HUGE):
            for row in ("abbab", "", LONG):
                assert_bad_number(self, least_masks, [row, value], value)

    def test_width_no_integer(self):
        for at, value in enumerate(NO_INTEGERS):
            with self.subTest(at=at):
                assert_bad_number(self, least_masks, ["abbab", value], value)
                assert_bad_number(self, least_masks, ["", value], value)

    def test_several_wrong_values(self):
        assert_order(
            self, best_masks, [2, 4, 2], [(0, BadNumber), (13, BadNumber), (5, BadLetters)])
        assert_order(
            self, best_masks, [2, 4, 2], [(True, BadNumber), ("4", BadNumber), (None, BadLetters)])
        assert_order(self, least_masks, ["abbab", 3], [("abe", BadRow), (0, BadNumber)])
        assert_order(self, least_masks, ["", 9], [(None, BadRow), (10, BadNumber)])

    def test_too_great_comes_last(self):
        assert_bad_number(self, best_masks, [13, 12, 4], 13)
        assert_bad_number(self, best_masks, [5, 13, 2], 13)
        assert_raises(self, BadLetters, best_masks, [12, 12, 5])
        assert_raises(self, BadLetters, best_masks, [12, 12, 0])


if __name__ == "__main__":
    unittest.main()
