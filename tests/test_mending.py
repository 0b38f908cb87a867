"""Point [11]: letters that are changed."""

import unittest
from itertools import product

from holedwindows.errors import BadLetters, BadMask, BadRow, TooLong
from holedwindows.longest import longest
from holedwindows.mending import mend, weak_letters
from tests.checking import assert_field, assert_order, assert_raises
from tests.values import (
    NO_LETTERS, NO_MASKS, NO_ROWS, UNLIKE, masks, plain_tells, plain_told, small_masks, strings,
    unlike_letters)

LONG = "abcd" * 15
BOTH = [mend, weak_letters]
# Letters, the greatest length of rows and the greatest width of masks that are gone through.
SMALL = [(1, 8, 9), (2, 6, 5), (3, 4, 4), (4, 3, 3)]
TOLD = {}


def all_told(mask, signs, length):
    """Return all strings of this length that the mask tells, looking for them just once."""
    if (mask, signs, length) not in TOLD:
        TOLD[mask, signs, length] = plain_told(mask, signs, length)
    return TOLD[mask, signs, length]


def plain_mend(row, mask, signs):
    """Return what mend tells, by counting the changes to each row that is told."""
    told = [(unlike_letters(row, other), other) for other in all_told(mask, signs, len(row))]
    return min(told) if told else None


def plain_weak(row, mask, signs):
    """Return what weak_letters tells, from all rows that are told."""
    found = []
    for other in all_told(mask, signs, len(row)):
        places = [at for at in range(len(row)) if other[at] != row[at]]
        if len(places) == 1:
            found.append((places[0], other[places[0]]))
    return sorted(found)


def small_calls():
    """Return many arguments (row, mask, letters)."""
    return [
        (row, mask, letters) for letters, most, width in SMALL for mask in masks(width)
        for row in strings("abcd"[:letters], most)]


class Examples(unittest.TestCase):
    def test_of_the_interface(self):
        self.assertEqual(
            [mend("ababa", "x.x", 2), mend("abbab", "x.x", 2), mend("aaa", "x", 2),
             weak_letters("abbab", "x.x", 2)],
            [(1, "ababb"), (0, "abbab"), None, [(1, "a"), (2, "a")]])


class Mend(unittest.TestCase):
    def test_rows_that_are_told_already(self):
        self.assertEqual(mend("abcd", "x", 4), (0, "abcd"))
        self.assertEqual(mend("dcba", "x", 4), (0, "dcba"))
        self.assertEqual(mend("ababba", "x..x", 2), (0, "ababba"))
        self.assertEqual(mend("dddddddd", "xxxxxxxx", 4), (0, "dddddddd"))
        self.assertEqual(mend("ccc", "x" * 12, 3), (0, "ccc"))

    def test_the_least_row_of_those_with_the_fewest_changes(self):
        # Not "abab" or "bbba", which are told, too, but have more letters others.
        self.assertEqual(mend("aaaa", "xx", 2), (1, "aaba"))
        self.assertEqual(mend("bbbb", "xx", 2), (1, "babb"))
        self.assertEqual(mend("aaaa", "x", 4), (3, "abcd"))
        self.assertEqual(mend("dddd", "x", 4), (3, "abcd"))
        self.assertEqual(mend("dddddddd", "x.....x", 4), (1, "addddddd"))
        self.assertEqual(mend("cccccccc", "x.....x", 3), (1, "accccccc"))

    def test_rows_that_no_change_can_mend(self):
        self.assertIsNone(mend("aa", "x", 1))
        self.assertIsNone(mend("aaa", "xx", 1))
        self.assertIsNone(mend("aba", "x", 2))
        self.assertIsNone(mend("abcab", "x", 4))
        self.assertIsNone(mend("abcdabcd", "x", 4))
        self.assertIsNone(mend("ababab", "xx", 2))
        self.assertIsNone(mend("aaabbbab", "x..x", 2))

    def test_more_letters_mend_what_fewer_ones_do_not(self):
        self.assertEqual([mend("aaa", "x", letters) for letters in (1, 2, 3, 4)],
                         [None, None, (2, "abc"), (2, "abc")])
        self.assertEqual([mend("bbabbb", "xx", letters) for letters in (2, 3, 4)],
                         [None, (1, "bbabcb"), (1, "bbabcb")])

    def test_the_empty_row(self):
        for letters in (1, 2, 3, 4):
            for mask in ("x", "x.x", "x" * 12):
                self.assertEqual(mend("", mask, letters), (0, ""))

    def test_a_pair_of_an_integer_and_a_string(self):
        told = mend("ababa", "x.x", 2)
        self.assertEqual([type(told), type(told[0]), type(told[1])], [tuple, int, str])

    def test_of_all_small_rows(self):
        for row, mask, letters in small_calls():
            self.assertEqual(
                mend(row, mask, letters), plain_mend(row, mask, "abcd"[:letters]), (row, mask, letters))

    def test_rows_of_8_letters(self):
        for mask in ("x", "xx", "x.x", "x..x", "xxx", "x.xx", "x......x", "xxxxxxx"):
            for row in ("aaaaaaaa", "abababab", "aabbaabb", "bbbbbbba", "aababbba"):
                self.assertEqual(mend(row, mask, 2), plain_mend(row, mask, "ab"), (row, mask))
        for mask in ("xx", "x.x", "x....x"):
            for row in ("aaaaaaaa", "abcabcab", "ccbbaacc"):
                self.assertEqual(mend(row, mask, 3), plain_mend(row, mask, "abc"), (row, mask))
        for row in ("aaaaaaaa", "abcdabcd", "ddddcccc"):
            self.assertEqual(mend(row, "xx", 4), plain_mend(row, "xx", "abcd"), row)
        self.assertEqual(mend("aaaaaaaa", "x" * 12, 1), (0, "aaaaaaaa"))

    def test_what_is_mended_is_told(self):
        for row, mask, letters in small_calls()[::5]:
            told = mend(row, mask, letters)
            if told is not None:
                self.assertIs(plain_tells(told[1], mask), True)
                self.assertEqual(mend(told[1], mask, letters), (0, told[1]))

    def test_none_just_if_the_row_is_longer_than_the_longest(self):
        for letters, most in ((1, 8), (2, 8), (3, 6), (4, 6)):
            for mask in small_masks(letters, 4):
                for length in range(most + 1):
                    told = mend("a" * length, mask, letters)
                    self.assertEqual(told is None, length > longest(mask, letters), (mask, letters, length))


class WeakLetters(unittest.TestCase):
    def test_of_rows_that_are_told(self):
        self.assertEqual(weak_letters("ab", "x", 3), [(0, "c"), (1, "c")])
        self.assertEqual(weak_letters("ab", "x", 2), [])
        self.assertEqual(weak_letters("abc", "x", 4), [(0, "d"), (1, "d"), (2, "d")])
        # "bab" and "abb" are told, "aaa" is not.
        self.assertEqual(weak_letters("aab", "xx", 2), [(0, "b"), (1, "b")])

    def test_of_rows_that_are_not_told(self):
        self.assertEqual(weak_letters("aa", "x", 2), [(0, "b"), (1, "b")])
        self.assertEqual(weak_letters("aa", "x", 3), [(0, "b"), (0, "c"), (1, "b"), (1, "c")])
        self.assertEqual(weak_letters("aaa", "x", 4), [])
        self.assertEqual(weak_letters("abca", "x", 4), [(0, "d"), (3, "d")])

    def test_places_that_are_not_seen_may_have_any_letter(self):
        self.assertEqual(weak_letters("aba", "x.x", 2), [(0, "b"), (1, "a"), (2, "b")])
        self.assertEqual(
            weak_letters("ca", "xxx", 4),
            [(0, "a"), (0, "b"), (0, "d"), (1, "b"), (1, "c"), (1, "d")])

    def test_with_1_letter(self):
        for row in strings("a", 12):
            self.assertEqual(weak_letters(row, "xx", 1), [])

    def test_the_empty_row(self):
        for letters in (1, 2, 3, 4):
            for mask in ("x", "x.x", "x" * 12):
                self.assertEqual(weak_letters("", mask, letters), [])

    def test_a_list_of_pairs(self):
        told = weak_letters("abbab", "x.x", 2)
        self.assertIs(type(told), list)
        self.assertEqual([(type(pair), type(pair[0]), type(pair[1])) for pair in told], [(tuple, int, str)] * 2)

    def test_of_all_small_rows(self):
        for row, mask, letters in small_calls():
            self.assertEqual(
                weak_letters(row, mask, letters), plain_weak(row, mask, "abcd"[:letters]),
                (row, mask, letters))

    def test_rows_of_more_than_8_letters(self):
        for row in ("abbaabbab", UNLIKE, UNLIKE[:30], UNLIKE[:20] + UNLIKE[:20], LONG):
            for mask in ("xxx", "x.xx", "xxxx", "x" * 12):
                told = [
                    (at, sign) for at in range(len(row)) for sign in "abcd"
                    if sign != row[at] and plain_tells(row[:at] + sign + row[at + 1:], mask)]
                self.assertEqual(weak_letters(row, mask, 4), told, (row, mask))
        self.assertGreater(len(weak_letters(UNLIKE, "xxxx", 4)), 40)

    def test_fewer_letters_tell_some_of_them(self):
        for row, mask, letters in small_calls()[::7]:
            more = weak_letters(row, mask, 4)
            self.assertEqual(
                weak_letters(row, mask, letters),
                [pair for pair in more if pair[1] in "abcd"[:letters]])

    def test_one_change_mends_just_if_there_is_a_weak_letter(self):
        for row, mask, letters in small_calls()[::3]:
            if not plain_tells(row, mask):
                told = [row[:at] + sign + row[at + 1:] for at, sign in weak_letters(row, mask, letters)]
                mended = mend(row, mask, letters)
                if told:
                    self.assertEqual(mended, (1, min(told)))
                elif mended is not None:
                    self.assertGreater(mended[0], 1)


class WrongValues(unittest.TestCase):
    def test_no_mask(self):
        for at, value in enumerate(NO_MASKS):
            with self.subTest(at=at):
                for call in BOTH:
                    assert_raises(self, BadMask, call, ["ab", value, 2])
                    assert_raises(self, BadMask, call, ["", value, 2])

    def test_no_letters(self):
        for at, value in enumerate(NO_LETTERS):
            with self.subTest(at=at):
                for call in BOTH:
                    assert_raises(self, BadLetters, call, ["", "x", value])
                    assert_raises(self, BadLetters, call, ["ab", "x" * 12, value])

    def test_no_row(self):
        for at, value in enumerate(NO_ROWS):
            with self.subTest(at=at):
                for call in BOTH:
                    assert_raises(self, BadRow, call, [value, "x.x", 4])

    def test_rows_with_other_letters(self):
        for letters in (1, 2, 3):
            other = "abcd"[letters]
            for row in (other, "d", "a" + other, other + "a", "a" + other + "a", "aaaa" + other):
                for call in BOTH:
                    self.assertEqual(vars(assert_raises(self, BadRow, call, [row, "xx", letters])), {})
                    assert_raises(self, BadRow, call, [row, "x" * 12, letters])
                    call(row, "xx", 4)

    def test_masks_are_not_too_great(self):
        self.assertEqual(mend("abcdabcd", "x" * 12, 4), (0, "abcdabcd"))
        self.assertEqual(len(weak_letters("abcdabcd", "x" * 12, 4)), 24)
        self.assertEqual(mend("aaaa", "xxx", 4), (1, "aaab"))

    def test_rows_of_more_than_8_letters(self):
        for length in (9, 10, 59, 60):
            for letters in (1, 2, 3, 4):
                for mask in ("x", "x.x", "x" * 12):
                    assert_field(self, TooLong, mend, ["a" * length, mask, letters], "most", 8)
        assert_field(self, TooLong, mend, ["aabbccdda", "xx", 4], "most", 8)
        assert_field(self, TooLong, mend, [UNLIKE, "xxx", 4], "most", 8)

    def test_several_wrong_values(self):
        for call in BOTH:
            for row in ("abe", "a" * 61, None, "abc", "e" * 9, "c" * 9):
                assert_order(
                    self, call, ["ab", "x.x", 2], [(row, BadRow), ("x.", BadMask), (5, BadLetters)], [1, 2, 0])
                assert_order(
                    self, call, ["", "x", 1], [(row, BadRow), (7, BadMask), (True, BadLetters)], [1, 2, 0])

    def test_too_long_comes_last(self):
        assert_order(
            self, mend, ["ab", "x.x", 2], [("a" * 9, TooLong), ("", BadMask), (0, BadLetters)], [1, 2, 0])
        for row in ("aaaaaaaac", "caaaaaaaa", "a" * 59 + "c", "aaaaaaaae", "a" * 61):
            assert_raises(self, BadRow, mend, [row, "x.x", 2])


class AllStrings(unittest.TestCase):
    def test_no_other_row_needs_fewer_changes(self):
        for row in ("abab", "aaaa", "abcb"):
            for mask in masks(3):
                changes, other = mend(row, mask, 4)
                for signs in product("abcd", repeat=4):
                    text = "".join(signs)
                    if plain_tells(text, mask):
                        self.assertGreaterEqual((unlike_letters(row, text), text), (changes, other))


if __name__ == "__main__":
    unittest.main()
