"""Point [7]: rings."""

import unittest
from itertools import permutations, product

from holedwindows.errors import BadLetters, BadMask, BadRow, TooGreat
from holedwindows.rings import full_rings, longest_ring, ring_tells, ring_views
from tests.checking import assert_order, assert_raises
from tests.values import (
    NO_LETTERS, NO_MASKS, NO_ROWS, TOO_GREAT, masks, plain_ring_tells, plain_ring_views, small_masks,
    strings, turned)

LONG = "abcd" * 15
OF_LETTERS = [longest_ring, full_rings]


def all_rings(signs, length):
    """Return the ascending list of all rings of so many of these signs."""
    rows = ("".join(told) for told in product(signs, repeat=length))
    return [row for row in rows if row == min(turned(row))]


# All rings that can be told in so many letters by masks that see so many places at most.
RINGS = {
    (signs, length): all_rings(signs, length)
    for signs, most in (("a", 3), ("ab", 16), ("abc", 9), ("abcd", 5)) for length in range(1, most + 1)}
# The small masks for two letters, but of those that see four places, which take long, not all.
OF_TWO = (
    [mask for mask in small_masks(2) if mask.count("x") < 4]
    + [mask for mask in small_masks(2) if mask.count("x") == 4][::3])


def count_views(mask, letters):
    """Return how many strings there are that can be views."""
    return letters ** mask.count("x")


def plain_longest_ring(mask, letters):
    """Return the least of the longest told rings, by looking at all rings."""
    for length in range(count_views(mask, letters), 0, -1):
        for ring in RINGS["abcd"[:letters], length]:
            if plain_ring_tells(ring, mask):
                return ring
    return None


def plain_full_rings(mask, letters):
    """Return the rings in which each string comes just once as a view, by counting them."""
    signs = "abcd"[:letters]
    looks = sorted("".join(told) for told in product(signs, repeat=mask.count("x")))
    return [
        ring for ring in RINGS[signs, count_views(mask, letters)]
        if sorted(plain_ring_views(ring, mask)) == looks]


class Examples(unittest.TestCase):
    def test_of_the_interface(self):
        self.assertEqual(
            [ring_views("aab", "x.x"), ring_tells("aab", "x.x"), longest_ring("x.x", 2),
             longest_ring("xx.x", 2), full_rings("xx", 2), full_rings("x.x", 2), ring_views("ab", "x.x")],
            [["ab", "aa", "ba"], True, "aab", "aaababb", ["aabb"], [], ["aa", "bb"]])


class RingViews(unittest.TestCase):
    def test_of_ordinary_rings(self):
        self.assertEqual(ring_views("abcd", "x"), ["a", "b", "c", "d"])
        self.assertEqual(ring_views("abcd", "xx"), ["ab", "bc", "cd", "da"])
        self.assertEqual(ring_views("abcd", "xx.x"), ["abd", "bca", "cdb", "dac"])

    def test_rings_of_one_letter(self):
        self.assertEqual(ring_views("c", "x"), ["c"])
        self.assertEqual(ring_views("c", "x.x"), ["cc"])
        self.assertEqual(ring_views("a", "x" * 12), ["a" * 12])

    def test_masks_wider_than_the_ring(self):
        self.assertEqual(ring_views("ab", "xxx"), ["aba", "bab"])
        self.assertEqual(ring_views("ab", "x..........x"), ["ab", "ba"])
        self.assertEqual(ring_views("abc", "x" * 12), ["abcabcabcabc", "bcabcabcabca", "cabcabcabcab"])
        self.assertEqual(ring_views("abcda", "x.....x"), ["ab", "bc", "cd", "da", "aa"])

    def test_a_ring_of_60_letters(self):
        self.assertEqual(ring_views(LONG, "x..........x"), ["ad", "ba", "cb", "dc"] * 15)
        self.assertEqual(ring_views("a" * 59 + "b", "xx")[57:], ["aa", "ab", "ba"])

    def test_of_all_small_rings(self):
        for row in strings("ab", 7)[1:] + strings("acd", 4)[1:]:
            for mask in masks(5) + ["x......xx.xx", "x..........x"]:
                self.assertEqual(ring_views(row, mask), plain_ring_views(row, mask), (row, mask))


class RingTells(unittest.TestCase):
    def test_of_ordinary_rings(self):
        self.assertIs(ring_tells("abcd", "x"), True)
        self.assertIs(ring_tells("aabb", "xx"), True)
        self.assertIs(ring_tells("aabb", "x.x"), False)
        self.assertIs(ring_tells("aabb", "x..x"), True)
        self.assertIs(ring_tells("abab", "xx"), False)
        self.assertIs(ring_tells("aabba", "xx"), False)

    def test_the_letters_at_the_seam_count(self):
        self.assertIs(ring_tells("aab", "xx"), True)
        self.assertIs(ring_tells("aba", "x.x"), True)
        self.assertIs(ring_tells("aabbb", "xx"), False)
        self.assertIs(ring_tells("baab", "x"), False)

    def test_rings_of_one_letter_are_told(self):
        for mask in masks(5) + ["x" * 12, "x..........x"]:
            for row in "abcd":
                self.assertIs(ring_tells(row, mask), True)

    def test_masks_wider_than_the_ring(self):
        self.assertIs(ring_tells("ab", "x" * 12), True)
        self.assertIs(ring_tells("aa", "x" * 12), False)
        self.assertIs(ring_tells("aab", "x..x"), False)
        self.assertIs(ring_tells("abab", "x" * 12), False)

    def test_rings_of_60_letters(self):
        self.assertIs(ring_tells(LONG, "x" * 12), False)
        self.assertIs(ring_tells("a" * 59 + "b", "x" * 12), False)

    def test_of_all_small_rings(self):
        for row in strings("ab", 7)[1:] + strings("acd", 4)[1:]:
            for mask in masks(5) + ["x......xx.xx", "x..........x"]:
                self.assertIs(ring_tells(row, mask), plain_ring_tells(row, mask), (row, mask))


class LongestRing(unittest.TestCase):
    def test_the_narrowest_mask(self):
        self.assertEqual([longest_ring("x", letters) for letters in (1, 2, 3, 4)], ["a", "ab", "abc", "abcd"])

    def test_the_greatest_masks_for_1_letter(self):
        for mask in ("x" * 12, "x..........x", "xx.x.xx...xx"):
            self.assertEqual(longest_ring(mask, 1), "a")

    def test_small_masks_for_2_letters(self):
        for mask in OF_TWO:
            self.assertEqual(longest_ring(mask, 2), plain_longest_ring(mask, 2), mask)

    def test_all_small_masks_for_3_and_4_letters(self):
        for letters in (3, 4):
            for mask in small_masks(letters):
                self.assertEqual(longest_ring(mask, letters), plain_longest_ring(mask, letters), mask)

    def test_it_is_the_least_of_its_rows_and_told(self):
        for mask in small_masks(2):
            ring = longest_ring(mask, 2)
            self.assertEqual(ring, min(turned(ring)))
            self.assertIs(ring_tells(ring, mask), True)


class FullRings(unittest.TestCase):
    def test_the_narrowest_mask(self):
        self.assertEqual(full_rings("x", 1), ["a"])
        self.assertEqual(full_rings("x", 2), ["ab"])
        self.assertEqual(full_rings("x", 3), ["abc", "acb"])
        self.assertEqual(full_rings("x", 4), ["a" + "".join(told) for told in permutations("bcd")])

    def test_the_greatest_masks_for_1_letter(self):
        for mask in ("x" * 12, "x..........x", "xx.x.xx...xx"):
            self.assertEqual(full_rings(mask, 1), ["a"])

    def test_how_many_there_are_without_holes(self):
        self.assertEqual(full_rings("xxx", 2), ["aaababbb", "aaabbbab"])
        self.assertEqual(len(full_rings("xxxx", 2)), 16)
        self.assertEqual(len(full_rings("xx", 3)), 24)

    def test_none(self):
        self.assertEqual(full_rings("x.x", 2), [])
        self.assertEqual(full_rings("x...x", 2), [])
        self.assertEqual(full_rings("x...x", 1), ["a"])

    def test_small_masks_for_2_letters(self):
        for mask in OF_TWO:
            self.assertEqual(full_rings(mask, 2), plain_full_rings(mask, 2), mask)

    def test_all_small_masks_for_3_and_4_letters(self):
        for letters in (3, 4):
            for mask in small_masks(letters):
                self.assertEqual(full_rings(mask, letters), plain_full_rings(mask, letters), mask)

    def test_the_longest_ring_is_the_first_of_them_if_there_is_one(self):
        for letters in (1, 2, 3, 4):
            for mask in small_masks(letters, 6):
                rings = full_rings(mask, letters)
                longest = longest_ring(mask, letters)
                self.assertEqual(rings[:1], [longest] if len(longest) == count_views(mask, letters) else [])


class WrongValues(unittest.TestCase):
    def test_no_row(self):
        for at, value in enumerate(NO_ROWS):
            with self.subTest(at=at):
                assert_raises(self, BadRow, ring_views, [value, "x.x"])
                assert_raises(self, BadRow, ring_tells, [value, "x.x"])

    def test_a_row_without_letters_is_no_ring(self):
        for mask in ("x", "x.x", "x" * 12):
            self.assertEqual(vars(assert_raises(self, BadRow, ring_views, ["", mask])), {})
            assert_raises(self, BadRow, ring_tells, ["", mask])

    def test_no_mask(self):
        for at, value in enumerate(NO_MASKS):
            with self.subTest(at=at):
                assert_raises(self, BadMask, ring_views, ["abab", value])
                assert_raises(self, BadMask, ring_tells, ["a", value])
                assert_raises(self, BadMask, longest_ring, [value, 2])
                assert_raises(self, BadMask, full_rings, [value, 1])

    def test_no_letters(self):
        for at, value in enumerate(NO_LETTERS):
            with self.subTest(at=at):
                for call in OF_LETTERS:
                    assert_raises(self, BadLetters, call, ["x", value])
                    assert_raises(self, BadLetters, call, ["x" * 12, value])

    def test_masks_that_are_too_great(self):
        for mask, letters in TOO_GREAT:
            with self.subTest(mask=mask, letters=letters):
                for call in OF_LETTERS:
                    self.assertEqual(vars(assert_raises(self, TooGreat, call, [mask, letters])), {})

    def test_no_mask_is_too_great_for_a_ring_that_is_told(self):
        self.assertIs(ring_tells("abcd" * 3, "x" * 12), False)
        self.assertEqual(ring_views("abcd", "x..........x"), ["ad", "ba", "cb", "dc"])

    def test_several_wrong_values(self):
        for call in (ring_views, ring_tells):
            assert_order(self, call, ["aab", "x.x"], [("abe", BadRow), ("x.", BadMask)])
            assert_order(self, call, ["aab", "x.x"], [("", BadRow), ("", BadMask)])
            assert_order(self, call, ["aab", "x.x"], [("a" * 61, BadRow), (None, BadMask)])
        for call in OF_LETTERS:
            assert_order(self, call, ["x.x", 2], [(".", BadMask), (0, BadLetters)])
            assert_order(self, call, ["x.x", 2], [("x" * 13, BadMask), (True, BadLetters)])


if __name__ == "__main__":
    unittest.main()
