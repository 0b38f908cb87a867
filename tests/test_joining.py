"""Points [9] and [10]: rows put together."""

import copy
import unittest
from itertools import permutations, product

from holedwindows.errors import BadMask, BadViews, TooMany
from holedwindows.joining import first_clash, joined, rows_from, sure_from
from tests.checking import assert_field, assert_raises
from tests.values import (
    NO_LISTS_OF_LOOKS, NO_LOOKS, NO_MASKS, SIGNS, masks, plain_views, strings)

LONG = "abcd" * 15
ALL = [joined, first_clash, rows_from, sure_from]
OF_ANY_ORDER = [rows_from, sure_from]
SEVEN = ["ab", "ba", "bb", "cd", "dc", "a?", "?d"]


def plain_joined(mask, looks):
    """Return what joined tells, place by place: all that any look says of it."""
    row = ""
    for at in range(len(looks) + len(mask) - 1):
        said = set()
        for start, look in enumerate(looks):
            signs = iter(look)
            for place in range(len(mask)):
                if mask[place] == "x":
                    sign = next(signs)
                    if start + place == at and sign != "?":
                        said.add(sign)
        if len(said) > 1:
            return None
        row += said.pop() if said else "?"
    return row


def plain_clash(mask, looks):
    """Return what first_clash tells, by joining more and more looks."""
    for many in range(1, len(looks) + 1):
        if plain_joined(mask, looks[:many]) is None:
            return many - 1
    return None


def plain_rows(mask, looks):
    """Return what rows_from tells, by joining the looks in each order."""
    rows = [plain_joined(mask, order) for order in permutations(looks)]
    return sorted(set(row for row in rows if row is not None))


def plain_sure(rows):
    """Return what the rows have in common."""
    if not rows:
        return None
    return "".join(
        rows[0][at] if all(row[at] == rows[0][at] for row in rows) else "?" for at in range(len(rows[0])))


def looks_of(mask):
    """Return all looks of two letters through a mask."""
    return ["".join(told) for told in product("ab?", repeat=mask.count("x"))]


class Examples(unittest.TestCase):
    def test_the_first_of_the_interface(self):
        self.assertEqual(
            [joined("x.x", ["ab", "ba", "bb"]), joined("x.x", ["ab", "??"]), joined("x.x", ["ab", "ba", "ab"]),
             first_clash("x.x", ["ab", "ba", "ab"])],
            ["abbab", "a?b?", None, 2])

    def test_the_second_of_the_interface(self):
        self.assertEqual(
            [rows_from("x.x", ["ab", "bb", "ba"]), sure_from("x.x", ["ab", "bb", "ba"]),
             sure_from("xx", ["ab", "bb"])],
            [["abbab", "abbba", "babba", "bbabb"], "?????", "abb"])


class Joined(unittest.TestCase):
    def test_of_ordinary_looks(self):
        self.assertEqual(joined("xx", ["ab", "bc", "cd"]), "abcd")
        self.assertEqual(joined("xx.x", ["abd", "bca"]), "abcda")
        self.assertEqual(joined("x..x", ["ad"]), "a??d")
        self.assertEqual(joined("x..x", ["ad", "bd"]), "ab?dd")

    def test_letters_that_are_not_read(self):
        self.assertEqual(joined("xx", ["a?", "?b"]), "a?b")
        self.assertEqual(joined("xx", ["a?", "bb"]), "abb")
        self.assertEqual(joined("xx", ["ab", "?b"]), "abb")
        self.assertEqual(joined("xxx", ["???", "???"]), "????")

    def test_looks_that_clash(self):
        self.assertIsNone(joined("xx", ["ab", "ab"]))
        self.assertIsNone(joined("xx", ["ab", "bc", "dd"]))
        self.assertIsNone(joined("x..x", ["ab", "??", "??", "a?"]))
        self.assertIsNone(joined("xxx", ["ab?", "???", "a??", "aaa", "b??", "c??"]))

    def test_one_look(self):
        self.assertEqual(joined("x", ["a"]), "a")
        self.assertEqual(joined("x", ["?"]), "?")
        self.assertEqual(joined("x.xx", ["ab?"]), "a?b?")
        self.assertEqual(joined("x" * 12, ["abcdabcdabcd"]), "abcdabcdabcd")
        self.assertEqual(joined("x..........x", ["ab"]), "a??????????b")
        self.assertIsNone(first_clash("x..........x", ["ab"]))

    def test_60_looks(self):
        self.assertEqual(joined("x", list(LONG)), LONG)
        self.assertEqual(joined("x", tuple(LONG)), LONG)
        self.assertEqual(joined("xx", ["ab", "ba"] * 30), "ab" * 30 + "a")
        self.assertEqual(joined("x" * 12, ["?" * 12] * 60), "?" * 71)
        self.assertEqual(joined("x..........x", ["a?"] * 59 + ["ab"]), "a" * 60 + "?" * 10 + "b")
        self.assertIsNone(joined("xx", ["ab", "ba"] * 29 + ["ab", "ca"]))
        self.assertEqual(first_clash("xx", ["ab", "ba"] * 29 + ["ab", "ca"]), 59)
        self.assertIsNone(first_clash("xx", ["ab", "ba"] * 30))

    def test_a_list_and_a_tuple_are_the_same(self):
        for looks in (["ab", "ba"], ["ab", "b?", "bb"], ["ab", "bb", "ab"]):
            for call in ALL:
                self.assertEqual(call("x.x", looks), call("x.x", tuple(looks)))

    def test_the_views_of_a_row_tell_the_letters_that_are_seen(self):
        for mask in masks(4):
            for row in strings("ab", 6):
                found = plain_views(row, mask)
                if found:
                    told = joined(mask, found)
                    self.assertEqual(len(told), len(row))
                    self.assertTrue(all(sign in ("?", row[at]) for at, sign in enumerate(told)))
                    self.assertIsNone(first_clash(mask, found))

    def test_of_all_short_lists(self):
        for mask, most in (("x", 4), ("xx", 3), ("x.x", 3), ("x..x", 2), ("xxx", 2), ("xx.x", 2)):
            for many in range(1, most + 1):
                for looks in product(looks_of(mask), repeat=many):
                    self.assertEqual(joined(mask, looks), plain_joined(mask, looks), (mask, looks))
                    self.assertEqual(first_clash(mask, list(looks)), plain_clash(mask, looks), (mask, looks))


class FirstClash(unittest.TestCase):
    def test_the_first_look_that_clashes_with_those_ahead_of_it(self):
        self.assertEqual(first_clash("xx", ["ab", "ab"]), 1)
        self.assertEqual(first_clash("xx", ["ab", "bc", "dd", "aa", "bb"]), 2)
        self.assertEqual(first_clash("x..x", ["ab", "??", "??", "a?"]), 3)
        self.assertEqual(first_clash("x..x", ["a?", "??", "??", "a?", "??", "??", "b?", "aa"]), None)

    def test_none_of_looks_that_do_not_clash(self):
        self.assertIsNone(first_clash("x", ["a", "b", "?"]))
        self.assertIsNone(first_clash("xx", ["a?", "?b"]))
        self.assertIsNone(first_clash("x.x", ["ab", "cd"]))

    def test_it_is_none_just_if_there_is_a_row(self):
        for looks in product(looks_of("xx"), repeat=3):
            self.assertIs(first_clash("xx", looks) is None, joined("xx", looks) is not None)


class RowsFrom(unittest.TestCase):
    def test_of_ordinary_looks(self):
        self.assertEqual(rows_from("xx", ["bc", "ab"]), ["abc"])
        self.assertEqual(rows_from("xx", ["ab", "ba"]), ["aba", "bab"])
        self.assertEqual(rows_from("x", ["b", "a"]), ["ab", "ba"])
        self.assertEqual(rows_from("x.x", ["ab", "?c"]), ["?acb", "a?bc"])

    def test_each_row_once(self):
        self.assertEqual(rows_from("x", ["a", "a", "a"]), ["aaa"])
        self.assertEqual(rows_from("xx", ["??", "aa", "aa"]), ["?aaa", "aaa?", "aaaa"])
        self.assertEqual(rows_from("xx", ["a?", "a?", "??"]), ["?aa?", "a?a?", "aa??"])

    def test_none_where_all_orders_clash(self):
        self.assertEqual(rows_from("xx", ["ab", "ab"]), [])
        self.assertEqual(rows_from("xx", ["aa", "bb", "cc"]), [])
        self.assertIsNone(sure_from("xx", ["ab", "ab"]))

    def test_one_look(self):
        self.assertEqual(rows_from("x", ["d"]), ["d"])
        self.assertEqual(rows_from("x.x", ["a?"]), ["a??"])
        self.assertEqual(rows_from("x" * 12, ["?" * 12]), ["?" * 12])
        self.assertEqual(sure_from("x..........x", ["ab"]), "a??????????b")

    def test_seven_looks(self):
        self.assertEqual(len(rows_from("x", list("abcdab?"))), 5040 // 4)
        self.assertEqual(rows_from("x" * 12, ["?" * 12] * 7), ["?" * 18])
        self.assertEqual(rows_from("xx", SEVEN[:1] * 7), [])
        for mask, looks in (("x.x", SEVEN), ("xx", ["ab", "bc", "cd", "da", "ab", "bc", "c?"])):
            told = plain_rows(mask, looks)
            self.assertEqual(rows_from(mask, looks), told)
            self.assertEqual(rows_from(mask, tuple(looks[::-1])), told)
            self.assertEqual(sure_from(mask, looks), plain_sure(told))

    def test_the_order_of_the_looks_means_nothing(self):
        for order in permutations(["ab", "b?", "ba", "bb"]):
            self.assertEqual(rows_from("x.x", order), plain_rows("x.x", ["ab", "b?", "ba", "bb"]))

    def test_of_all_short_lists(self):
        for mask, most in (("x", 4), ("xx", 3), ("x.x", 3), ("x..x", 2), ("xxx", 2)):
            for many in range(1, most + 1):
                for looks in product(looks_of(mask), repeat=many):
                    told = plain_rows(mask, looks)
                    self.assertEqual(rows_from(mask, looks), told, (mask, looks))
                    self.assertEqual(sure_from(mask, looks), plain_sure(told), (mask, looks))

    def test_the_rows_of_a_told_row_are_among_them(self):
        for row, mask in (("abbaba", "x.x"), ("aabba", "xx"), ("abcdabc", "x..x"), ("abcdcba", "x")):
            self.assertIn(joined(mask, plain_views(row, mask)), rows_from(mask, plain_views(row, mask)[::-1]))


class SureFrom(unittest.TestCase):
    def test_what_all_rows_have_in_common(self):
        self.assertEqual(sure_from("xx", ["bc", "ab"]), "abc")
        self.assertEqual(sure_from("xx", ["ab", "ba"]), "???")
        self.assertEqual(sure_from("x", ["a", "a"]), "aa")
        self.assertEqual(sure_from("xxx", ["aab", "aba"]), "aaba")
        self.assertEqual(rows_from("xx", ["aa", "ab", "ba"]), ["aaba", "abaa", "baab"])
        self.assertEqual(sure_from("xx", ["aa", "ab", "ba"]), "????")

    def test_a_letter_and_one_that_is_not_known_are_not_the_same(self):
        self.assertEqual(rows_from("xx", ["a?", "aa"]), ["aa?", "aaa"])
        self.assertEqual(sure_from("xx", ["a?", "aa"]), "aa?")
        self.assertEqual(sure_from("x", ["a", "?"]), "??")


class WrongValues(unittest.TestCase):
    def test_no_mask(self):
        for at, value in enumerate(NO_MASKS):
            with self.subTest(at=at):
                for call in ALL:
                    assert_raises(self, BadMask, call, [value, ["ab"]])

    def test_no_list_of_looks(self):
        for at, value in enumerate(NO_LISTS_OF_LOOKS):
            with self.subTest(at=at):
                for call in ALL:
                    assert_field(self, BadViews, call, ["x.x", value], "index", None)

    def test_things_that_are_no_looks(self):
        for at, value in enumerate(NO_LOOKS):
            with self.subTest(at=at):
                for call in ALL:
                    assert_field(self, BadViews, call, ["x.x", [value]], "index", 0)
                    assert_field(self, BadViews, call, ["x.x", ("ab", value)], "index", 1)
                    assert_field(self, BadViews, call, ["x.x", ["ab", "??", value, "ab"]], "index", 2)

    def test_other_signs_in_a_look(self):
        for sign in SIGNS:
            if sign not in "abcd?":
                for look in (sign + "a", "a" + sign):
                    assert_field(self, BadViews, joined, ["x.x", ["aa", look]], "index", 1)

    def test_a_look_has_as_many_signs_as_are_seen(self):
        for call in ALL:
            assert_field(self, BadViews, call, ["xxx", ["abc", "ab"]], "index", 1)
            assert_field(self, BadViews, call, ["x", ["ab", "a"]], "index", 0)
            assert_field(self, BadViews, call, ["x" * 12, ["?" * 12, "?" * 11, "?" * 13]], "index", 1)

    def test_the_first_thing_that_is_no_look(self):
        for call in ALL:
            assert_field(self, BadViews, call, ["x", ["a", "e", None, "f"]], "index", 1)
            assert_field(self, BadViews, call, ["x", [None, "e"]], "index", 0)
            assert_field(self, BadViews, call, ["x", ["a"] * 59 + ["e"]], "index", 59)
            assert_field(self, BadViews, call, ["x", ["a"] * 60 + ["e"]], "index", None)

    def test_looks_that_clash_ahead_of_a_wrong_one(self):
        for call in ALL:
            assert_field(self, BadViews, call, ["xx", ["ab", "ab", "x"]], "index", 2)

    def test_more_than_seven_looks(self):
        for many in (8, 9, 59, 60):
            for call in OF_ANY_ORDER:
                assert_field(self, TooMany, call, ["x", ["a"] * many], "most", 7)
                assert_field(self, TooMany, call, ["x.x", ("ab",) * many], "most", 7)
            self.assertEqual(joined("x", ["a"] * many), "a" * many)
        for call in OF_ANY_ORDER:
            assert_field(self, TooMany, call, ["xx", SEVEN + ["ab"]], "most", 7)

    def test_several_wrong_values(self):
        for call in ALL:
            for mask in ("x.", None, "x" * 13):
                for value in (None, [], ["ab"] * 61, ["abc"], [None], ["ab"] * 8):
                    assert_raises(self, BadMask, call, [mask, value])
        for call in OF_ANY_ORDER:
            assert_field(self, BadViews, call, ["x", ["a"] * 7 + ["e"]], "index", 7)
            assert_field(self, BadViews, call, ["x", ["e"] + ["a"] * 8], "index", 0)
            assert_field(self, BadViews, call, ["x", ["a"] * 61], "index", None)


class Arguments(unittest.TestCase):
    def test_the_list_is_not_changed(self):
        for call in ALL:
            looks = ["bb", "ab", "ba", "??", "ab"]
            before = copy.deepcopy(looks)
            call("x.x", looks)
            self.assertEqual(looks, before)

    def test_later_changes_of_the_list_have_no_effect(self):
        looks = ["ab", "bb", "ba"]
        told = rows_from("x.x", looks)
        looks.clear()
        self.assertEqual(told, ["abbab", "abbba", "babba", "bbabb"])


if __name__ == "__main__":
    unittest.main()
