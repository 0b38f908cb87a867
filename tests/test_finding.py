"""Point [4]: places found by looks."""

import unittest
from itertools import product

from holedwindows.errors import BadMask, BadNumber, BadRow, BadView
from holedwindows.finding import find, near, steps_needed
from tests.checking import assert_bad_number, assert_order, assert_raises
from tests.values import (
    HUGE, NO_INTEGERS, NO_LOOKS, NO_MASKS, NO_ROWS, SIGNS, masks, plain_views, strings)

LONG = "abcd" * 15


class Examples(unittest.TestCase):
    def test_of_the_interface(self):
        self.assertEqual(
            [find("abbab", "x.x", "b?"), find("abbab", "x.x", "aa"), near("abbab", "x.x", "aa", 1),
             steps_needed("ababa", "x.x"), steps_needed("aaaa", "x"), steps_needed("", "x")],
            [[1, 2], [], [0, 1], 2, 4, None])


class Find(unittest.TestCase):
    def test_looks_of_letters(self):
        self.assertEqual(find("abcab", "x", "a"), [0, 3])
        self.assertEqual(find("abcab", "xx", "ab"), [0, 3])
        self.assertEqual(find("abcab", "x.x", "ca"), [])
        self.assertEqual(find("abcab", "x.x", "cb"), [2])

    def test_each_sign_of_the_look_counts(self):
        self.assertEqual(find("abcabd", "xxx", "abd"), [3])
        self.assertEqual(find("abcdbc", "xxx", "dbc"), [3])
        self.assertEqual(find("abcadc", "xxx", "adc"), [3])

    def test_a_letter_that_is_not_read_may_be_any(self):
        self.assertEqual(find("abcab", "xx", "?b"), [0, 3])
        self.assertEqual(find("abcab", "xx", "c?"), [2])
        self.assertEqual(find("abcadc", "xxx", "a?c"), [0, 3])
        self.assertEqual(find("abcab", "xx", "?d"), [])

    def test_looks_with_no_letter_read(self):
        self.assertEqual(find("abcab", "x", "?"), [0, 1, 2, 3, 4])
        self.assertEqual(find("abcab", "x.x", "??"), [0, 1, 2])
        self.assertEqual(find("ab", "x.x", "??"), [])
        self.assertEqual(find("abcdabcdabcda", "x" * 12, "?" * 12), [0, 1])

    def test_rows_of_no_letter_and_of_60(self):
        self.assertEqual(find("", "x", "a"), [])
        self.assertEqual(find("", "x" * 12, "a" * 12), [])
        self.assertEqual(find(LONG, "x", "d"), list(range(3, 60, 4)))
        self.assertEqual(find(LONG, "x..........x", "ad"), list(range(0, 49, 4)))
        self.assertEqual(find(LONG, "x" * 12, "bcdabcdabcda"), list(range(1, 49, 4)))


class Near(unittest.TestCase):
    def test_at_most_so_many_others(self):
        row, mask = "abcdabca", "xxx"
        self.assertEqual(near(row, mask, "abc", 0), [0, 4])
        self.assertEqual(near(row, mask, "abd", 0), [])
        self.assertEqual(near(row, mask, "abd", 1), [0, 4])
        self.assertEqual(near(row, mask, "bbc", 1), [0, 4])
        self.assertEqual(near(row, mask, "bbd", 1), [1])
        self.assertEqual(near(row, mask, "bbd", 2), [0, 1, 4, 5])
        self.assertEqual(near(row, mask, "bbd", 3), [0, 1, 2, 3, 4, 5])

    def test_wrong_of_0_and_of_12(self):
        self.assertEqual(near("abcab", "xx", "ab", 0), [0, 3])
        self.assertEqual(near("abcab", "xx", "dd", 12), [0, 1, 2, 3])
        self.assertEqual(near("aaaaaaaaaaaab", "x" * 12, "d" * 12, 12), [0, 1])
        self.assertEqual(near("aaaaaaaaaaaab", "x" * 12, "d" * 12, 11), [])
        self.assertEqual(near("ab", "x.x", "dd", 12), [])

    def test_letters_that_are_not_read_are_no_others(self):
        self.assertEqual(near("abcab", "xx", "??", 0), [0, 1, 2, 3])
        self.assertEqual(near("abcab", "xx", "d?", 0), [])
        self.assertEqual(near("abcab", "xx", "d?", 1), [0, 1, 2, 3])
        self.assertEqual(near("abcabd", "xxx", "?ba", 1), [0, 1, 3])


class AllSmallRows(unittest.TestCase):
    def test_find_and_near(self):
        for mask in masks(4):
            for row in strings("ab", 6):
                told = plain_views(row, mask)
                for signs in product("ab?", repeat=mask.count("x")):
                    look = "".join(signs)
                    numbers = [count_others(view, look) for view in told]
                    at_once = [at for at, many in enumerate(numbers) if many == 0]
                    self.assertEqual(find(row, mask, look), at_once, (row, mask, look))
                    for wrong in range(4):
                        places = [at for at, many in enumerate(numbers) if many <= wrong]
                        self.assertEqual(near(row, mask, look, wrong), places, (row, mask, look))

    def test_steps_needed(self):
        for mask in masks(4):
            for row in strings("ab", 8) + strings("abcd", 4):
                self.assertEqual(steps_needed(row, mask), plain_steps(row, mask), (row, mask))


def count_others(view, look):
    """Return how many letters of the look are others than those of the view."""
    many = 0
    for at, letter in enumerate(view):
        if look[at] not in ("?", letter):
            many += 1
    return many


def plain_steps(row, mask):
    """Return the least number of steps, by comparing each place with each other one."""
    told = plain_views(row, mask)
    for many in range(1, len(told) + 1):
        last = len(told) - many
        unlike = True
        for one in range(last + 1):
            for other in range(one):
                unlike = unlike and told[one:one + many] != told[other:other + many]
        if unlike:
            return many
    return None


class StepsNeeded(unittest.TestCase):
    def test_one_view_is_enough_just_if_the_mask_tells_the_row(self):
        self.assertEqual(steps_needed("abcd", "x"), 1)
        self.assertEqual(steps_needed("abcda", "x"), 2)
        self.assertEqual(steps_needed("abbab", "x.x"), 1)

    def test_more_views(self):
        self.assertEqual(steps_needed("aab", "x"), 2)
        self.assertEqual(steps_needed("abababc", "x"), 5)
        self.assertEqual(steps_needed("aaab", "x"), 3)

    def test_only_places_count_from_which_on_there_are_so_many(self):
        self.assertEqual(steps_needed("aba", "x"), 2)
        self.assertEqual(steps_needed("aa", "x"), 2)

    def test_one_place_needs_one_view(self):
        self.assertEqual(steps_needed("a", "x"), 1)
        self.assertEqual(steps_needed("aba", "x.x"), 1)
        self.assertEqual(steps_needed("a" * 12, "x" * 12), 1)

    def test_none_without_views(self):
        self.assertIsNone(steps_needed("", "x"))
        self.assertIsNone(steps_needed("ab", "x.x"))
        self.assertIsNone(steps_needed("a" * 11, "x..........x"))

    def test_rows_of_60_letters(self):
        self.assertEqual(steps_needed("a" * 60, "x"), 60)
        self.assertEqual(steps_needed("a" * 60, "x" * 12), 49)
        self.assertEqual(steps_needed(LONG, "x"), 57)


class WrongValues(unittest.TestCase):
    def test_no_row(self):
        for at, value in enumerate(NO_ROWS):
            with self.subTest(at=at):
                assert_raises(self, BadRow, find, [value, "x.x", "aa"])
                assert_raises(self, BadRow, near, [value, "x.x", "aa", 0])
                assert_raises(self, BadRow, steps_needed, [value, "x.x"])

    def test_no_mask(self):
        for at, value in enumerate(NO_MASKS):
            with self.subTest(at=at):
                assert_raises(self, BadMask, find, ["abab", value, "aa"])
                assert_raises(self, BadMask, near, ["abab", value, "aa", 0])
                assert_raises(self, BadMask, steps_needed, ["abab", value])

    def test_no_look(self):
        for at, value in enumerate(NO_LOOKS):
            with self.subTest(at=at):
                for row in ("abab", "", "ab"):
                    assert_raises(self, BadView, find, [row, "x.x", value])
                    assert_raises(self, BadView, near, [row, "x.x", value, 0])

    def test_other_signs_in_a_look(self):
        for sign in SIGNS:
            if sign not in "abcd?":
                for look in (sign + "a", "a" + sign, sign * 2):
                    with self.subTest(look=look):
                        assert_raises(self, BadView, find, ["abab", "x.x", look])

    def test_a_look_has_as_many_signs_as_are_seen(self):
        assert_raises(self, BadView, find, ["abab", "x.x", "a?b"])
        assert_raises(self, BadView, find, ["abab", "x", "ab"])
        assert_raises(self, BadView, find, ["abab", "x" * 12, "?" * 11])
        assert_raises(self, BadView, find, ["abab", "x" * 12, "?" * 13])
        self.assertEqual(find("abab", "x" * 12, "?" * 12), [])

    def test_wrong_beyond_0_to_12(self):
        for value in (-1, 13, 60, HUGE, -HUGE):
            for row in ("abab", ""):
                assert_bad_number(self, near, [row, "x.x", "a?", value], value)

    def test_wrong_no_integer(self):
        for at, value in enumerate(NO_INTEGERS):
            with self.subTest(at=at):
                assert_bad_number(self, near, ["abab", "x.x", "ab", value], value)
                assert_bad_number(self, near, ["", "x.x", "ab", value], value)

    def test_several_wrong_values(self):
        assert_order(
            self, near, ["abab", "x.x", "a?", 0],
            [("abe", BadRow), ("x.", BadMask), ("a", BadView), (13, BadNumber)])
        assert_order(
            self, near, ["", "x", "?", 12],
            [(None, BadRow), (["x"], BadMask), (("a",), BadView), (False, BadNumber)])
        assert_order(
            self, find, ["abab", "x.x", "a?"], [("a" * 61, BadRow), (0, BadMask), (None, BadView)])
        assert_order(self, steps_needed, ["abab", "x.x"], [("abe", BadRow), ("x.", BadMask)])


if __name__ == "__main__":
    unittest.main()
