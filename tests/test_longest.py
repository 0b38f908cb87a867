"""Points [5] and [6]: the longest rows, and rows made longer."""

import unittest
from itertools import permutations

from holedwindows.errors import BadLetters, BadMask, BadNumber, BadRow, TooGreat
from holedwindows.longest import count_rows, farthest, longest, longest_rows, next_letters
from tests.checking import assert_bad_number, assert_order, assert_raises
from tests.values import (
    HUGE, NO_INTEGERS, NO_LETTERS, NO_MASKS, NO_ROWS, TOO_GREAT, UNLIKE, masks, plain_farthest,
    plain_tells, plain_told, small_masks, strings)

LONG = "abcd" * 15
# The masks for two letters that are as wide, and see as many places, as can be.
GREATEST_OF_TWO = [mask for mask in small_masks(2) if len(mask) == 8 and mask.count("x") == 4]
# Pairs of a small mask and letters whose longest rows are soon found in a slow way.
QUICK = (
    [(mask, 1) for mask in small_masks(1, 6)] + [(mask, 2) for mask in small_masks(2, 5)]
    + [(mask, 3) for mask in small_masks(3, 4)] + [("x", 4), ("x......x", 2)])


class Examples(unittest.TestCase):
    def test_the_first_of_the_interface(self):
        self.assertEqual(
            [longest("x.x", 2), longest_rows("x.x", 2), count_rows("x.x", 2, 5), longest("xx.x", 2),
             longest("x.x", 1)],
            [6, ["ababba", "abbaba", "baabab", "babaab"], 12, 11, 3])

    def test_the_second_of_the_interface(self):
        self.assertEqual(
            [next_letters("ababb", "x.x", 2), farthest("aab", "x.x", 2), farthest("abba", "x.x", 2),
             farthest("ababa", "x.x", 2)],
            ["a", 5, 6, None])


class Longest(unittest.TestCase):
    def test_the_narrowest_mask(self):
        for letters in (1, 2, 3, 4):
            told = ["".join(row) for row in permutations("abcd"[:letters])]
            self.assertEqual(longest("x", letters), letters)
            self.assertEqual(longest_rows("x", letters), told)

    def test_the_greatest_masks_for_1_letter(self):
        for mask in ("x" * 12, "x..........x", "x.xx.x..xx.x", "xxxxxxxxxx.x"):
            self.assertEqual(longest(mask, 1), 12)
            self.assertEqual(longest_rows(mask, 1), ["a" * 12])

    def test_each_mask_of_12_for_1_letter(self):
        for mask in small_masks(1):
            self.assertEqual(longest(mask, 1), len(mask))

    def test_the_greatest_masks_for_2_letters(self):
        self.assertEqual(len(GREATEST_OF_TWO), 15)
        exchange = str.maketrans("ab", "ba")
        for mask in GREATEST_OF_TWO:
            rows = longest_rows(mask, 2)
            # 16 views, which is all there can be.
            self.assertEqual(longest(mask, 2), 23)
            self.assertEqual({len(row) for row in rows}, {23})
            self.assertTrue(all(plain_tells(row, mask) for row in rows))
            self.assertEqual(rows, sorted(set(rows)))
            self.assertEqual(rows, sorted(row.translate(exchange) for row in rows))
            self.assertEqual(sorted(row[::-1] for row in rows), longest_rows(mask[::-1], 2))

    def test_all_rows_of_some_greatest_masks_for_2_letters(self):
        for mask in ("xxxx", "x.x.xx", "xx....xx"):
            self.assertEqual(longest_rows(mask, 2), plain_farthest("", mask, "ab"))
        # The rings of 16 letters in which each view comes once, opened at each place.
        self.assertEqual(len(longest_rows("xxxx", 2)), 16 * 16)

    def test_masks_of_8_that_see_few_places(self):
        self.assertEqual(longest("x......x", 2), 11)
        self.assertEqual(longest_rows("x......x", 2), plain_told("x......x", "ab", 11))
        self.assertEqual(plain_told("x......x", "ab", 12), [])
        self.assertEqual(longest_rows("x..x...x", 2), plain_farthest("", "x..x...x", "ab"))

    def test_the_greatest_masks_for_3_letters(self):
        self.assertEqual(longest("x...x", 3), 13)
        self.assertEqual(longest_rows("x...x", 3), plain_farthest("", "x...x", "abc"))
        self.assertEqual(longest("xx", 3), 10)
        # 24 rings of 9 letters, opened at each place.
        self.assertEqual(len(longest_rows("xx", 3)), 24 * 9)

    def test_the_greatest_mask_for_4_letters(self):
        self.assertEqual(longest("x", 4), 4)
        self.assertEqual(len(longest_rows("x", 4)), 24)
        self.assertEqual(longest_rows("x", 4)[:3], ["abcd", "abdc", "acbd"])
        self.assertEqual(longest_rows("x", 4)[-1], "dcba")

    def test_a_longest_row_is_told_and_none_that_is_longer(self):
        for mask, letters in QUICK:
            rows = longest_rows(mask, letters)
            self.assertEqual(rows, plain_farthest("", mask, "abcd"[:letters]), (mask, letters))
            self.assertEqual(longest(mask, letters), len(rows[0]), (mask, letters))

    def test_by_looking_at_each_string(self):
        for mask, letters, most in (("x", 1, 4), ("x.x", 1, 6), ("x", 2, 5), ("xx", 2, 9), ("x.x", 2, 9),
                                    ("x..x", 2, 9), ("x....x", 2, 10), ("xxx", 2, 11), ("x", 3, 6),
                                    ("x", 4, 6)):
            told = [plain_told(mask, "abcd"[:letters], length) for length in range(most + 1)]
            rows = [rows for rows in told if rows][-1]
            self.assertEqual(longest(mask, letters), len(rows[0]), (mask, letters))
            self.assertEqual(longest_rows(mask, letters), rows, (mask, letters))


class CountRows(unittest.TestCase):
    def test_of_each_length(self):
        for mask, letters in QUICK:
            most = {1: 8, 2: 9, 3: 6, 4: 6}[letters]
            for length in range(most + 1):
                self.assertEqual(
                    count_rows(mask, letters, length), len(plain_told(mask, "abcd"[:letters], length)),
                    (mask, letters, length))

    def test_length_0(self):
        for letters in (1, 2, 3, 4):
            for mask in small_masks(letters, 8):
                self.assertEqual(count_rows(mask, letters, 0), 1)

    def test_length_60_and_others_beyond_the_longest(self):
        for mask, letters in (("x", 1), ("x" * 12, 1), ("xxxx", 2), ("x......x", 2), ("x...x", 3), ("x", 4)):
            most = longest(mask, letters)
            for length in (most + 1, most + 2, 2 * most + 1, 59, 60):
                self.assertEqual(count_rows(mask, letters, length), 0)

    def test_the_longest_rows_are_counted(self):
        for letters in (1, 2, 3, 4):
            for mask in small_masks(letters, 6):
                self.assertEqual(
                    count_rows(mask, letters, longest(mask, letters)), len(longest_rows(mask, letters)))

    def test_rows_of_one_place_and_shorter_ones_are_all_told(self):
        for mask, letters in (("x..........x", 1), ("x......x", 2), ("xx....xx", 2), ("x...x", 3), ("x", 4)):
            for length in range(len(mask) + 1):
                self.assertEqual(count_rows(mask, letters, length), letters ** length)

    def test_of_the_greatest_masks(self):
        for mask in GREATEST_OF_TWO[::4]:
            # Two views, which are not alike.
            self.assertEqual(count_rows(mask, 2, 9), len(plain_told(mask, "ab", 9)))
            self.assertEqual(count_rows(mask, 2, 12), len(plain_told(mask, "ab", 12)))
        self.assertEqual(count_rows("x" * 12, 1, 12), 1)
        self.assertEqual(count_rows("x" * 12, 1, 13), 0)
        self.assertEqual(count_rows("x", 4, 3), 24)
        self.assertEqual(count_rows("x...x", 3, 7), len(plain_told("x...x", "abc", 7)))


class NextLetters(unittest.TestCase):
    def test_of_small_rows(self):
        for mask in masks(4):
            for row in strings("ab", 6) + strings("abc", 4):
                for letters in (2, 3, 4):
                    if max(row, default="a") < "abcde"[letters]:
                        told = [sign for sign in "abcd"[:letters] if plain_tells(row + sign, mask)]
                        self.assertEqual(next_letters(row, mask, letters), "".join(told), (row, mask))

    def test_with_1_letter(self):
        self.assertEqual(next_letters("", "x", 1), "a")
        self.assertEqual(next_letters("a", "x", 1), "")
        self.assertEqual(next_letters("a" * 11, "x" * 12, 1), "a")
        self.assertEqual(next_letters("a" * 12, "x" * 12, 1), "")

    def test_of_the_empty_row(self):
        for letters in (1, 2, 3, 4):
            for mask in ("x", "x.x", "x" * 12):
                self.assertEqual(next_letters("", mask, letters), "abcd"[:letters])

    def test_none_for_a_row_that_is_not_told(self):
        self.assertEqual(next_letters("aa", "x", 4), "")
        self.assertEqual(next_letters("aaaab", "xx", 4), "")

    def test_of_masks_that_are_not_small(self):
        self.assertEqual(next_letters("abcdabcdabcd", "x" * 12, 4), "abcd")
        self.assertEqual(next_letters("abcdabcdabcda", "x..........x", 4), "abcd")
        self.assertEqual(next_letters("aabbc", "xxx", 3), "abc")
        self.assertEqual(next_letters("a" * 12, "xxxxxxxxxxxx", 2), "b")

    def test_of_a_row_of_60_letters(self):
        self.assertEqual(len(UNLIKE), 60)
        self.assertEqual(next_letters(UNLIKE, "xxx", 4), "cd")
        self.assertEqual(next_letters(UNLIKE, "xxxx", 4), "abcd")
        self.assertEqual(next_letters(UNLIKE, "x" * 12, 4), "abcd")
        self.assertEqual(next_letters(LONG, "x" * 12, 4), "")
        self.assertEqual(next_letters("a" * 60, "x", 1), "")

    def test_each_row_of_59_letters_more(self):
        row = UNLIKE[:59]
        told = [sign for sign in "abcd" if plain_tells(row + sign, "xxx")]
        self.assertIn("d", told)
        self.assertEqual(next_letters(row, "xxx", 4), "".join(told))


class Farthest(unittest.TestCase):
    def test_of_small_rows(self):
        for letters, signs, most, width in ((1, "a", 7, 6), (2, "ab", 6, 4), (3, "abc", 4, 3), (4, "abcd", 5, 1)):
            for mask in small_masks(letters, width):
                for row in strings(signs, most):
                    told = len(plain_farthest(row, mask, signs)[0]) if plain_tells(row, mask) else None
                    self.assertEqual(farthest(row, mask, letters), told, (row, mask, letters))

    def test_the_empty_row_becomes_the_longest(self):
        for letters in (1, 2, 3, 4):
            for mask in small_masks(letters, 7):
                self.assertEqual(farthest("", mask, letters), longest(mask, letters))

    def test_the_greatest_masks(self):
        self.assertEqual(farthest("a" * 5, "x" * 12, 1), 12)
        self.assertEqual(farthest("aaaaaaaa", "x....xxx", 2), len(plain_farthest("a" * 8, "x....xxx", "ab")[0]))
        self.assertEqual(farthest("aabbb", "x...x", 3), len(plain_farthest("aabbb", "x...x", "abc")[0]))
        self.assertEqual(farthest(longest_rows("x...x", 3)[5][:9], "x...x", 3), 13)
        self.assertEqual(farthest(longest_rows("x....xxx", 2)[5][:15], "x....xxx", 2), 23)
        self.assertEqual(farthest("dcb", "x", 4), 4)

    def test_its_own_length_where_no_letter_can_be_put_behind(self):
        for mask, letters in (("x" * 12, 1), ("x.x", 2), ("xxxx", 2), ("xx....xx", 2), ("xx", 3), ("x", 4)):
            for row in longest_rows(mask, letters)[::7]:
                self.assertEqual(farthest(row, mask, letters), len(row))

    def test_a_row_that_ends_early(self):
        self.assertEqual(next_letters("aaba", "xx", 2), "")
        self.assertEqual(farthest("aaba", "xx", 2), 4)

    def test_none_if_the_row_is_not_told(self):
        self.assertIsNone(farthest("aa", "x", 4))
        self.assertIsNone(farthest("a" * 13, "x" * 12, 1))
        self.assertIsNone(farthest("aaa", "xx", 3))

    def test_of_rows_of_60_letters(self):
        self.assertIsNone(farthest(LONG, "x", 4))
        self.assertIsNone(farthest("a" * 60, "x" * 12, 1))
        self.assertIsNone(farthest("ab" * 30, "xx....xx", 2))
        self.assertIsNone(farthest("abc" * 20, "x...x", 3))


class WrongValues(unittest.TestCase):
    def test_no_mask(self):
        for at, value in enumerate(NO_MASKS):
            with self.subTest(at=at):
                assert_raises(self, BadMask, longest, [value, 2])
                assert_raises(self, BadMask, longest_rows, [value, 2])
                assert_raises(self, BadMask, count_rows, [value, 2, 5])
                assert_raises(self, BadMask, next_letters, ["ab", value, 2])
                assert_raises(self, BadMask, farthest, ["ab", value, 2])

    def test_no_letters(self):
        for at, value in enumerate(NO_LETTERS):
            with self.subTest(at=at):
                assert_raises(self, BadLetters, longest, ["x", value])
                assert_raises(self, BadLetters, longest_rows, ["x", value])
                assert_raises(self, BadLetters, count_rows, ["x", value, 5])
                assert_raises(self, BadLetters, next_letters, ["", "x", value])
                assert_raises(self, BadLetters, farthest, ["", "x", value])

    def test_masks_that_are_too_great(self):
        for mask, letters in TOO_GREAT:
            with self.subTest(mask=mask, letters=letters):
                self.assertEqual(vars(assert_raises(self, TooGreat, longest, [mask, letters])), {})
                assert_raises(self, TooGreat, longest_rows, [mask, letters])
                assert_raises(self, TooGreat, count_rows, [mask, letters, 0])
                assert_raises(self, TooGreat, farthest, ["", mask, letters])
                self.assertEqual(next_letters("", mask, letters), "abcd"[:letters])

    def test_no_mask_is_too_great_that_is_not(self):
        for letters in (1, 2, 3, 4):
            small = small_masks(letters)
            for mask in masks(9):
                if mask in small:
                    self.assertEqual(count_rows(mask, letters, 1), letters)
                else:
                    assert_raises(self, TooGreat, count_rows, [mask, letters, 1])

    def test_length_beyond_0_to_60(self):
        for value in (-1, 61, 100, HUGE, -HUGE):
            for mask, letters in (("x", 1), ("x.x", 2), ("xx", 3), ("x", 4)):
                assert_bad_number(self, count_rows, [mask, letters, value], value)

    def test_length_no_integer(self):
        for at, value in enumerate(NO_INTEGERS):
            with self.subTest(at=at):
                assert_bad_number(self, count_rows, ["x.x", 2, value], value)

    def test_no_row(self):
        for at, value in enumerate(NO_ROWS):
            with self.subTest(at=at):
                assert_raises(self, BadRow, next_letters, [value, "x.x", 4])
                assert_raises(self, BadRow, farthest, [value, "x", 4])
                assert_raises(self, BadRow, farthest, [value, "x" * 12, 1])

    def test_rows_with_other_letters(self):
        for letters in (1, 2, 3):
            other = "abcd"[letters]
            for row in (other, "d", "a" + other, other + "a", "a" + other + "a", "aaaa" + other):
                with self.subTest(row=row, letters=letters):
                    assert_raises(self, BadRow, next_letters, [row, "xx", letters])
                    assert_raises(self, BadRow, next_letters, [row, "x" * 12, letters])
                    assert_raises(self, BadRow, farthest, [row, "x", letters])
                    self.assertEqual(type(next_letters(row, "xx", 4)), str)

    def test_several_wrong_values(self):
        assert_order(self, longest, ["x.x", 2], [("x.", BadMask), (0, BadLetters)])
        assert_order(self, longest_rows, ["x.x", 2], [(None, BadMask), (True, BadLetters)])
        assert_order(
            self, count_rows, ["x.x", 2, 5], [("", BadMask), ("2", BadLetters), (61, BadNumber)])
        assert_order(
            self, count_rows, ["x.x", 2, 5], [("x" * 13, BadMask), (5, BadLetters), (False, BadNumber)])
        for call in (next_letters, farthest):
            assert_order(
                self, call, ["ab", "x.x", 2], [("abe", BadRow), ("x.", BadMask), (5, BadLetters)],
                [1, 2, 0])
            assert_order(
                self, call, ["ab", "x.x", 2], [("abc", BadRow), (7, BadMask), (None, BadLetters)],
                [1, 2, 0])

    def test_too_great_and_another_one(self):
        for mask, letters in TOO_GREAT:
            assert_raises(self, TooGreat, count_rows, [mask, letters, 61])
            assert_raises(self, TooGreat, count_rows, [mask, letters, None])
            for row in ("abe", None, "a" * 61, "dcba"):
                assert_raises(self, TooGreat, farthest, [row, mask, letters])
        assert_raises(self, BadLetters, count_rows, ["x" * 12, 5, 61])
        assert_raises(self, BadLetters, farthest, ["e", "x" * 12, 0])
        assert_raises(self, BadMask, farthest, ["e", "x" * 13, 4])


if __name__ == "__main__":
    unittest.main()
