"""Point [3]: views, which of them are like, and what a row stands."""

import unittest
from itertools import combinations, product

from holedwindows.errors import BadMask, BadNumber, BadRow
from holedwindows.finding import near
from holedwindows.views import alike, distance, groups, stands, tells, views
from tests.checking import assert_bad_number, assert_order, assert_raises
from tests.values import (
    HUGE, NO_INTEGERS, NO_MASKS, NO_ROWS, SIGNS, masks, plain_pairs, plain_views, strings,
    unlike_letters)

OF_ROW_AND_MASK = [views, tells, alike, groups, distance]
LONG = "abcd" * 15
SMALL = [(row, mask) for row in strings("ab", 7) + strings("acd", 4) for mask in masks(5)]


class Examples(unittest.TestCase):
    def test_the_first_of_the_interface(self):
        self.assertEqual(
            [views("abbab", "x.x"), tells("abbab", "x.x"), alike("ababa", "x.x"),
             groups("ababa", "x.x"), distance("abbab", "x.x"), stands("abbab", "x.x", 0, 1)],
            [["ab", "ba", "bb"], True, (0, 2), [(0, 2)], 1, False])

    def test_the_second_of_the_interface(self):
        self.assertEqual(
            [views("ab", "x.x"), tells("ab", "x.x"), distance("abc", "x.x"),
             stands("abc", "x.x", 3, 3), alike("abbab", "x.x")],
            [[], True, None, True, None])


class Views(unittest.TestCase):
    def test_of_ordinary_rows(self):
        self.assertEqual(views("abcd", "x"), ["a", "b", "c", "d"])
        self.assertEqual(views("abcd", "xx"), ["ab", "bc", "cd"])
        self.assertEqual(views("dcbaabcd", "xx.x"), ["dca", "cba", "bab", "aac", "abd"])

    def test_masks_of_1_and_of_12_signs(self):
        self.assertEqual(views("dab", "x"), ["d", "a", "b"])
        self.assertEqual(views("abcdabcdabcd", "x" * 12), ["abcdabcdabcd"])
        self.assertEqual(views("abcdabcdabcda", "x..........x"), ["ad", "ba"])

    def test_rows_of_no_letter_and_of_60(self):
        self.assertEqual(views("", "x"), [])
        self.assertEqual(views("", "x" * 12), [])
        self.assertEqual(views(LONG, "x"), list(LONG))
        self.assertEqual(len(views(LONG, "x..........x")), 49)
        self.assertEqual(views(LONG, "x..........x")[-1], "ad")

    def test_a_mask_as_wide_as_the_row_and_wider(self):
        self.assertEqual(views("abc", "x.x"), ["ac"])
        self.assertEqual(views("ab", "x.x"), [])
        self.assertEqual(views("a", "x" * 12), [])

    def test_of_all_small_rows(self):
        for row, mask in SMALL:
            self.assertEqual(views(row, mask), plain_views(row, mask), (row, mask))


class LikeViews(unittest.TestCase):
    def test_tells(self):
        self.assertIs(tells("abc", "x"), True)
        self.assertIs(tells("abca", "x"), False)
        self.assertIs(tells("abca", "xx"), True)
        self.assertIs(tells("ababba", "x.x"), True)
        self.assertIs(tells("aaaa", "x.x"), False)

    def test_alike_is_a_pair_or_none(self):
        self.assertEqual(alike("abca", "x"), (0, 3))
        self.assertEqual(alike("cabab", "x"), (1, 3))
        self.assertIs(type(alike("aa", "x")), tuple)
        self.assertIsNone(alike("abcd", "x"))

    def test_alike_is_the_least_pair(self):
        self.assertEqual(alike("abba", "x"), (0, 3))
        self.assertEqual(alike("aaa", "x"), (0, 1))
        self.assertEqual(alike("dabbca", "x"), (1, 5))

    def test_groups_ascend_by_their_places(self):
        self.assertEqual(groups("baab", "x"), [(0, 3), (1, 2)])
        self.assertEqual(groups("dcbaabcd", "x"), [(0, 7), (1, 6), (2, 5), (3, 4)])

    def test_groups_have_all_places_of_a_view_that_comes_twice_or_more_often(self):
        self.assertEqual(groups("abacada", "x"), [(0, 2, 4, 6)])
        self.assertEqual(groups("aaaa", "x.x"), [(0, 1)])
        self.assertEqual(groups("abcabca", "xx"), [(0, 3), (1, 4), (2, 5)])
        self.assertEqual(groups("abcd", "x"), [])

    def test_groups_is_a_list_of_tuples(self):
        told = groups("abab", "x")
        self.assertIs(type(told), list)
        self.assertEqual([type(group) for group in told], [tuple, tuple])

    def test_rows_without_two_places(self):
        for row, mask in (("", "x"), ("a", "x"), ("ab", "x.x"), ("aba", "x.x"), ("a", "x" * 12),
                          ("a" * 12, "x" * 12)):
            with self.subTest(row=row, mask=mask):
                self.assertIs(tells(row, mask), True)
                self.assertIsNone(alike(row, mask))
                self.assertEqual(groups(row, mask), [])
                self.assertIsNone(distance(row, mask))

    def test_rows_of_60_letters(self):
        self.assertIs(tells("a" * 60, "x" * 12), False)
        self.assertEqual(alike(LONG, "xxxx"), (0, 4))
        self.assertEqual(groups("a" * 60, "x"), [tuple(range(60))])
        self.assertEqual(distance(LONG, "x" * 12), 0)

    def test_of_all_small_rows(self):
        for row, mask in SMALL:
            told = plain_views(row, mask)
            pairs = [pair for pair in plain_pairs(row, mask) if told[pair[0]] == told[pair[1]]]
            same = sorted(
                tuple(at for at, view in enumerate(told) if view == one)
                for one in set(told) if told.count(one) > 1)
            self.assertIs(tells(row, mask), not pairs, (row, mask))
            self.assertEqual(alike(row, mask), pairs[0] if pairs else None, (row, mask))
            self.assertEqual(groups(row, mask), same, (row, mask))


class Distance(unittest.TestCase):
    def test_is_the_least_number_of_unlike_letters(self):
        self.assertEqual(distance("abca", "x"), 0)
        self.assertEqual(distance("ab", "x"), 1)
        self.assertEqual(distance("abc", "xx"), 2)
        self.assertEqual(distance("abac", "xx"), 1)
        self.assertEqual(distance("abcda", "xxx"), 3)
        self.assertEqual(distance("abababababababc", "x" * 12), 0)
        self.assertEqual(distance("abcdabcdabcda", "x" * 12), 12)

    def test_none_for_fewer_than_two_places(self):
        self.assertIsNone(distance("abc", "xxx"))
        self.assertIsNone(distance("", "x"))

    def test_of_all_small_rows(self):
        for row, mask in SMALL:
            told = plain_views(row, mask)
            numbers = [unlike_letters(told[one], told[other]) for one, other in plain_pairs(row, mask)]
            self.assertEqual(distance(row, mask), min(numbers) if numbers else None, (row, mask))
            self.assertEqual(distance(row, mask) == 0, not tells(row, mask))


class Stands(unittest.TestCase):
    def test_whether_the_distance_is_above(self):
        row, mask = "abcdabcdabcda", "x" * 12
        for wrong, covered, told in ((0, 0, True), (0, 11, True), (0, 12, False), (5, 1, True),
                                     (5, 2, False), (6, 0, False), (4, 3, True), (4, 4, False),
                                     (12, 0, False), (12, 12, False), (1, 9, True), (1, 10, False)):
            with self.subTest(wrong=wrong, covered=covered):
                self.assertIs(stands(row, mask, wrong, covered), told)

    def test_without_two_places(self):
        for row, mask in (("", "x"), ("a", "x"), ("ab", "x.x"), ("aba", "x.x")):
            for wrong, covered in ((0, 0), (12, 12), (0, 12), (12, 0)):
                self.assertIs(stands(row, mask, wrong, covered), True)

    def test_by_none_wrong_and_none_covered_is_tells(self):
        for row, mask in SMALL:
            self.assertIs(stands(row, mask, 0, 0), tells(row, mask))

    def test_it_means_that_each_place_is_told_still(self):
        for row, mask in (("abcd", "xx"), ("abcda", "xxx"), ("abba", "xx"), ("abab", "xxx"),
                          ("abbab", "x.x"), ("abcd", "xxx"), ("aab", "x"), ("abc", "xxx")):
            for wrong, covered in product(range(3), range(3)):
                told = all(
                    near(row, mask, look, wrong) == [place]
                    for place, view in enumerate(views(row, mask))
                    for look in changed_looks(view, wrong, covered))
                self.assertIs(stands(row, mask, wrong, covered), told, (row, mask, wrong, covered))


def changed_looks(view, wrong, covered):
    """Return the looks with so many letters others at most, and so many covered."""
    found = []
    for many in range(min(covered, len(view)) + 1):
        for hidden in combinations(range(len(view)), many):
            signs = ["?" if at in hidden else "abcd" for at in range(len(view))]
            for look in product(*signs):
                others = [at for at in range(len(view)) if look[at] not in ("?", view[at])]
                if len(others) <= wrong:
                    found.append("".join(look))
    return found


class WrongValues(unittest.TestCase):
    def test_no_row(self):
        for at, value in enumerate(NO_ROWS):
            with self.subTest(at=at):
                for call in OF_ROW_AND_MASK:
                    assert_raises(self, BadRow, call, [value, "x.x"])
                assert_raises(self, BadRow, stands, [value, "x.x", 0, 0])

    def test_other_signs_in_a_row(self):
        for sign in SIGNS:
            if sign not in "abcd":
                for row in (sign, "a" + sign + "b", sign + "ab", "ab" + sign):
                    with self.subTest(row=row):
                        assert_raises(self, BadRow, views, [row, "x"])

    def test_no_mask(self):
        for at, value in enumerate(NO_MASKS):
            with self.subTest(at=at):
                for call in OF_ROW_AND_MASK:
                    assert_raises(self, BadMask, call, ["abab", value])
                    assert_raises(self, BadMask, call, ["", value])
                assert_raises(self, BadMask, stands, ["abab", value, 0, 0])

    def test_the_row_is_looked_at_first(self):
        for call in OF_ROW_AND_MASK:
            assert_order(self, call, ["abab", "x.x"], [("abe", BadRow), ("x.", BadMask)])
            assert_order(self, call, ["abab", "x.x"], [("a" * 61, BadRow), (None, BadMask)])
            assert_raises(self, BadRow, call, ["x.x", "abab"])

    def test_wrong_and_covered_beyond_0_to_12(self):
        for value in (-1, 13, 100, HUGE, -HUGE):
            for row in ("abab", ""):
                assert_bad_number(self, stands, [row, "x", value, 0], value)
                assert_bad_number(self, stands, [row, "x", 0, value], value)

    def test_wrong_and_covered_no_integers(self):
        for at, value in enumerate(NO_INTEGERS):
            with self.subTest(at=at):
                assert_bad_number(self, stands, ["abab", "x", value, 0], value)
                assert_bad_number(self, stands, ["abab", "x", 12, value], value)

    def test_several_wrong_values(self):
        assert_order(
            self, stands, ["abab", "x.x", 0, 1],
            [("abe", BadRow), ("x.", BadMask), (13, BadNumber), (-1, BadNumber)])
        assert_order(
            self, stands, ["", "x", 12, 12],
            [(None, BadRow), ([], BadMask), (True, BadNumber), (None, BadNumber)])


if __name__ == "__main__":
    unittest.main()
