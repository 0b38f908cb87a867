"""Point [15]: views of those who look either way."""

import unittest
from itertools import product

from holedwindows.both import both_alike, both_find, both_views
from holedwindows.errors import BadMask, BadRow, BadView
from holedwindows.finding import find
from holedwindows.views import alike, tells, views
from tests.checking import assert_order, assert_raises
from tests.values import NO_LOOKS, NO_MASKS, NO_ROWS, SIGNS, UNLIKE, masks, strings

LONG = "abcd" * 15
OF_ROW_AND_MASK = [both_views, both_alike]
SMALL = [
    (row, mask) for row in strings("ab", 6) + strings("acd", 4) for mask in masks(4) + ["xx..x", "x...x"]]


def plain_both(row, mask):
    """Return what both_views tells, letter by letter, as the document tells it."""
    found = []
    for place in range(len(row)):
        on, back = "", ""
        for far, sign in enumerate(mask):
            if sign == "x":
                on += row[place + far:place + far + 1]
                back += row[place - far] if far <= place else ""
        # "back" comes ahead of "on", as strings are compared.
        if place - len(mask) + 1 >= 0:
            found.append(((place, "back"), back))
        if place + len(mask) <= len(row):
            found.append(((place, "on"), on))
    return found


def plain_alike(row, mask):
    """Return what both_alike tells, by comparing each stand with each other one."""
    told = plain_both(row, mask)
    for at, (one, view) in enumerate(told):
        for other, again in told[at + 1:]:
            if view == again:
                return one, other
    return None


class Examples(unittest.TestCase):
    def test_of_the_interface(self):
        self.assertEqual(
            [both_views("aab", "x.x"), both_alike("aab", "x.x"), both_alike("aba", "x.x"),
             both_find("aab", "x.x", "?b")],
            [[((0, "on"), "ab"), ((2, "back"), "ba")], None, ((0, "on"), (2, "back")), [(0, "on")]])


class BothViews(unittest.TestCase):
    def test_rows_as_long_as_the_mask(self):
        self.assertEqual(both_views("abc", "xxx"), [((0, "on"), "abc"), ((2, "back"), "cba")])
        self.assertEqual(both_views("abcd", "xx.x"), [((0, "on"), "abd"), ((3, "back"), "dca")])
        self.assertEqual(both_views("a", "x"), [((0, "back"), "a"), ((0, "on"), "a")])
        row = "abcdabcdabcd"
        self.assertEqual(both_views(row, "x" * 12), [((0, "on"), row), ((11, "back"), row[::-1])])

    def test_shorter_rows(self):
        for row, mask in (("", "x"), ("a", "xx"), ("ab", "x.x"), ("a" * 11, "x" * 12)):
            self.assertEqual(both_views(row, mask), [])
            self.assertIsNone(both_alike(row, mask))
            self.assertEqual(both_find(row, mask, "?" * mask.count("x")), [])

    def test_longer_rows(self):
        self.assertEqual(
            both_views("abcd", "xx"),
            [((0, "on"), "ab"), ((1, "back"), "ba"), ((1, "on"), "bc"), ((2, "back"), "cb"),
             ((2, "on"), "cd"), ((3, "back"), "dc")])
        self.assertEqual(
            both_views("abcda", "xx.x"),
            [((0, "on"), "abd"), ((1, "on"), "bca"), ((3, "back"), "dca"), ((4, "back"), "adb")])

    def test_the_mask_is_turned_about_for_those_who_look_back(self):
        self.assertEqual(both_views("abcd", "xx.x"), [((0, "on"), "abd"), ((3, "back"), "dca")])
        self.assertEqual(both_views("abcd", "x.xx"), [((0, "on"), "acd"), ((3, "back"), "dba")])

    def test_stands_of_a_narrow_mask(self):
        told = both_views("dab", "x")
        self.assertEqual([stand for stand, _ in told], [
            (0, "back"), (0, "on"), (1, "back"), (1, "on"), (2, "back"), (2, "on")])
        self.assertEqual([view for _, view in told], ["d", "d", "a", "a", "b", "b"])

    def test_rows_of_60_letters(self):
        for row in (LONG, UNLIKE, "a" * 60):
            for mask in ("x", "xx.x", "x" * 12, "x..........x"):
                told = both_views(row, mask)
                self.assertEqual(len(told), 2 * (61 - len(mask)))
                self.assertEqual(told, plain_both(row, mask))

    def test_kinds(self):
        told = both_views("aab", "x.x")
        self.assertIs(type(told), list)
        for pair in told:
            self.assertEqual([type(pair), type(pair[0]), type(pair[1])], [tuple, tuple, str])
            self.assertEqual([type(pair[0][0]), type(pair[0][1])], [int, str])

    def test_of_all_small_rows(self):
        for row, mask in SMALL:
            told = both_views(row, mask)
            self.assertEqual(told, plain_both(row, mask), (row, mask))
            self.assertEqual(told, sorted(told))

    def test_the_way_on_is_as_in_views(self):
        for row, mask in SMALL:
            told = [(place, view) for (place, way), view in both_views(row, mask) if way == "on"]
            self.assertEqual(told, list(enumerate(views(row, mask))))


class BothAlike(unittest.TestCase):
    def test_like_views_either_way(self):
        self.assertEqual(both_alike("aba", "xxx"), ((0, "on"), (2, "back")))
        self.assertEqual(both_alike("abab", "xx"), ((0, "on"), (2, "back")))
        self.assertEqual(both_alike("aabaa", "xx"), ((0, "on"), (1, "back")))

    def test_like_views_one_way(self):
        self.assertEqual(both_alike("abcab", "xx"), ((0, "on"), (3, "on")))
        self.assertEqual(both_alike("cabab", "x.x"), ((1, "on"), (3, "back")))

    def test_the_least_pair_of_stands(self):
        self.assertEqual(both_alike("cbbac", "xx"), ((1, "on"), (2, "back")))
        # (2, on) is like (3, back), too, and lies nearer to it.
        self.assertEqual(both_alike("acbbca", "xx"), ((0, "on"), (5, "back")))
        # Four stands with the same view.
        self.assertEqual(both_alike("aaa", "xx"), ((0, "on"), (1, "back")))

    def test_one_open_sign_sees_the_same_either_way(self):
        for row in ("a", "ab", "dcba"):
            self.assertEqual(both_alike(row, "x"), ((0, "back"), (0, "on")))
        self.assertIsNone(both_alike("", "x"))

    def test_none(self):
        self.assertIsNone(both_alike("ab", "xx"))
        self.assertIsNone(both_alike("abc", "xx"))
        self.assertIsNone(both_alike("abcd", "x.x"))
        self.assertIsNone(both_alike("ab", "xxx"))

    def test_kinds(self):
        told = both_alike("aba", "x.x")
        self.assertEqual([type(told), type(told[0]), type(told[1])], [tuple, tuple, tuple])

    def test_of_all_small_rows(self):
        for row, mask in SMALL:
            self.assertEqual(both_alike(row, mask), plain_alike(row, mask), (row, mask))

    def test_rows_of_60_letters(self):
        for row in (LONG, UNLIKE, "a" * 60, "a" * 30 + "b" + "c" * 29):
            for mask in ("x", "xx", "xx.x", "x" * 12, "x..........x"):
                self.assertEqual(both_alike(row, mask), plain_alike(row, mask), (row, mask))

    def test_no_stands_that_are_alike_means_that_the_row_is_told(self):
        many = 0
        for row, mask in SMALL:
            if both_alike(row, mask) is None:
                self.assertIs(tells(row, mask), True)
                self.assertIsNone(alike(row, mask))
                many += 1
        self.assertGreater(many, 100)


class BothFind(unittest.TestCase):
    def test_looks_of_letters(self):
        self.assertEqual(both_find("abcab", "xx", "ab"), [(0, "on"), (3, "on")])
        self.assertEqual(both_find("abcab", "xx", "ba"), [(1, "back"), (4, "back")])
        self.assertEqual(both_find("abab", "xx", "ab"), [(0, "on"), (2, "back"), (2, "on")])
        self.assertEqual(both_find("abcab", "xx", "aa"), [])
        self.assertEqual(both_find("aba", "x", "b"), [(1, "back"), (1, "on")])

    def test_letters_that_are_not_read(self):
        self.assertEqual(both_find("abcab", "xx", "?c"), [(1, "on"), (3, "back")])
        self.assertEqual(both_find("abcab", "xx", "c?"), [(2, "back"), (2, "on")])
        self.assertEqual(both_find("abcab", "xx", "?d"), [])
        self.assertEqual(both_find("aab", "x.x", "??"), [(0, "on"), (2, "back")])

    def test_a_look_that_is_not_read_finds_all_stands(self):
        for row, mask in SMALL[::5]:
            told = [stand for stand, _ in plain_both(row, mask)]
            self.assertEqual(both_find(row, mask, "?" * mask.count("x")), told)

    def test_of_all_small_rows(self):
        for row in strings("ab", 5):
            for mask in masks(4):
                for signs in product("ab?", repeat=mask.count("x")):
                    look = "".join(signs)
                    told = [
                        stand for stand, view in plain_both(row, mask)
                        if all(sign in ("?", letter) for sign, letter in zip(look, view))]
                    self.assertEqual(both_find(row, mask, look), told, (row, mask, look))
                    on = [place for place, way in told if way == "on"]
                    self.assertEqual(on, find(row, mask, look))

    def test_rows_of_60_letters(self):
        self.assertEqual(
            both_find(LONG, "x..........x", "da"),
            [(place, "back") for place in range(11, 60, 4)])
        self.assertEqual(both_find(LONG, "x" * 12, "ab" + "?" * 10), [(at, "on") for at in range(0, 49, 4)])


class WrongValues(unittest.TestCase):
    def test_no_row(self):
        for at, value in enumerate(NO_ROWS):
            with self.subTest(at=at):
                for call in OF_ROW_AND_MASK:
                    assert_raises(self, BadRow, call, [value, "x.x"])
                assert_raises(self, BadRow, both_find, [value, "x.x", "aa"])

    def test_no_mask(self):
        for at, value in enumerate(NO_MASKS):
            with self.subTest(at=at):
                for call in OF_ROW_AND_MASK:
                    assert_raises(self, BadMask, call, ["abab", value])
                    assert_raises(self, BadMask, call, ["", value])
                assert_raises(self, BadMask, both_find, ["abab", value, "aa"])

    def test_no_look(self):
        for at, value in enumerate(NO_LOOKS):
            with self.subTest(at=at):
                for row in ("abab", "", "ab"):
                    self.assertEqual(vars(assert_raises(self, BadView, both_find, [row, "x.x", value])), {})

    def test_other_signs_in_a_look(self):
        for sign in SIGNS:
            if sign not in "abcd?":
                for look in (sign + "a", "a" + sign):
                    assert_raises(self, BadView, both_find, ["abab", "x.x", look])

    def test_a_look_has_as_many_signs_as_are_seen(self):
        assert_raises(self, BadView, both_find, ["abab", "x.x", "a?b"])
        assert_raises(self, BadView, both_find, ["abab", "x", "ab"])
        assert_raises(self, BadView, both_find, ["abab", "x" * 12, "?" * 11])

    def test_several_wrong_values(self):
        for row in ("abe", None, "a" * 61):
            for mask in ("x.", None, "x" * 13):
                for call in OF_ROW_AND_MASK:
                    assert_order(self, call, ["abab", "x.x"], [(row, BadRow), (mask, BadMask)])
                assert_order(
                    self, both_find, ["abab", "x.x", "a?"], [(row, BadRow), (mask, BadMask), ("a", BadView)])
                assert_order(
                    self, both_find, ["", "x", "?"], [(row, BadRow), (mask, BadMask), (None, BadView)])


if __name__ == "__main__":
    unittest.main()
