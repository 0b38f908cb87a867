"""Point [12]: a tracker goes along a row."""

import unittest
from itertools import product

from holedwindows.errors import BadMask, BadRow, BadView
from holedwindows.finding import find
from holedwindows.trackers import Tracker
from holedwindows.views import views
from tests.checking import assert_order, assert_raises
from tests.values import NO_LOOKS, NO_MASKS, NO_ROWS, SIGNS, UNLIKE, masks, plain_views, strings

LONG = "abcd" * 15


def state(tracker):
    """Return all that a tracker tells."""
    return (tracker.row, tracker.mask, tracker.seen, tracker.starts(), tracker.places(), len(tracker))


def plain_starts(row, mask, looks):
    """Return the places from which on the views are those of the looks, sign by sign."""
    told = plain_views(row, mask)
    found = []
    for start in range(len(told)):
        behind = told[start:]
        if len(looks) <= len(behind):
            signs = list(zip("".join(looks), "".join(behind)))
            if all(sign in ("?", letter) for sign, letter in signs):
                found.append(start)
    return found


def assert_stands(test, tracker, row, mask, looks):
    """Check all that a tracker tells after these looks."""
    starts = plain_starts(row, mask, looks)
    places = [start + len(looks) - 1 for start in starts] if looks else starts
    test.assertEqual(state(tracker), (row, mask, tuple(looks), starts, places, len(looks)))


class Examples(unittest.TestCase):
    def test_of_the_interface(self):
        tracker = Tracker("ababa", "x.x")
        self.assertEqual(
            [tracker.starts(), tracker.see("aa"), tracker.starts(), tracker.see("b?"), tracker.places(),
             tracker.undo(), len(tracker), tracker.places()],
            [[0, 1, 2], 2, [0, 2], 1, [1], True, 1, [0, 2]])


class Anew(unittest.TestCase):
    def test_it_can_begin_at_all_places(self):
        for row in strings("ab", 5) + [LONG, UNLIKE]:
            for mask in masks(4) + ["x" * 12]:
                assert_stands(self, Tracker(row, mask), row, mask, [])

    def test_of_rows_without_places(self):
        for row, mask in (("", "x"), ("ab", "x.x"), ("a" * 11, "x" * 12)):
            tracker = Tracker(row, mask)
            self.assertEqual(state(tracker), (row, mask, (), [], [], 0))
            self.assertEqual(tracker.see("?" * mask.count("x")), 0)
            self.assertEqual(state(tracker), (row, mask, ("?" * mask.count("x"),), [], [], 1))
            self.assertIs(tracker.undo(), True)
            self.assertIs(tracker.undo(), False)

    def test_arguments_may_be_given_by_their_names(self):
        tracker = Tracker(row="abba", mask="xx")
        self.assertEqual(tracker.see(view="?b"), 2)

    def test_kinds(self):
        tracker = Tracker("abba", "xx")
        self.assertEqual(
            [type(part) for part in state(tracker)], [str, str, tuple, list, list, int])
        self.assertIs(type(tracker.see("ab")), int)
        self.assertIs(type(tracker.copy()), Tracker)
        self.assertEqual([type(part) for part in state(tracker)], [str, str, tuple, list, list, int])

    def test_properties_are_only_read(self):
        tracker = Tracker("abba", "xx")
        for name in ("row", "mask", "seen"):
            self.assertIs(type(getattr(Tracker, name)), property)
            with self.assertRaises(AttributeError):
                setattr(tracker, name, "x")


class See(unittest.TestCase):
    def test_looks_that_fit(self):
        tracker = Tracker("abcabd", "x")
        self.assertEqual([tracker.see("a"), tracker.see("b"), tracker.see("d")], [2, 2, 1])
        self.assertEqual(state(tracker), ("abcabd", "x", ("a", "b", "d"), [3], [5], 3))

    def test_looks_that_do_not_fit(self):
        tracker = Tracker("abcabd", "x")
        self.assertEqual([tracker.see("a"), tracker.see("d")], [2, 0])
        self.assertEqual(state(tracker), ("abcabd", "x", ("a", "d"), [], [], 2))
        # It stays so, whatever comes behind.
        self.assertEqual([tracker.see("?"), tracker.see("a")], [0, 0])
        self.assertEqual(state(tracker), ("abcabd", "x", ("a", "d", "?", "a"), [], [], 4))

    def test_looks_with_no_letter_read(self):
        tracker = Tracker("ababa", "x.x")
        self.assertEqual([tracker.see("??"), tracker.starts(), tracker.places()], [3, [0, 1, 2], [0, 1, 2]])
        self.assertEqual([tracker.see("??"), tracker.starts(), tracker.places()], [2, [0, 1], [1, 2]])
        self.assertEqual([tracker.see("??"), tracker.starts(), tracker.places()], [1, [0], [2]])
        self.assertEqual([tracker.see("??"), tracker.starts(), tracker.places()], [0, [], []])

    def test_a_place_counts_just_if_the_row_goes_on_so_far(self):
        tracker = Tracker("aaa", "x")
        self.assertEqual([tracker.see("a"), tracker.see("a"), tracker.see("a")], [3, 2, 1])
        self.assertEqual(tracker.starts(), [0])
        self.assertEqual(tracker.places(), [2])

    def test_more_looks_than_the_row_has_places(self):
        tracker = Tracker("aba", "x")
        for look in ("a", "b", "a"):
            self.assertGreater(tracker.see(look), 0)
        for many in range(4, 130):
            self.assertEqual(tracker.see("?"), 0)
            self.assertEqual((tracker.starts(), tracker.places(), len(tracker)), ([], [], many))
        self.assertEqual(tracker.seen, ("a", "b", "a") + ("?",) * 126)
        for many in range(126):
            self.assertEqual(tracker.starts(), [])
            self.assertIs(tracker.undo(), True)
        self.assertEqual((tracker.starts(), tracker.places()), ([0], [2]))

    def test_it_is_not_wrapped_around_the_end(self):
        tracker = Tracker("abc", "x")
        self.assertEqual([tracker.see("c"), tracker.see("a")], [1, 0])

    def test_one_look_is_as_in_find(self):
        for row in strings("ab", 5):
            for mask in masks(3):
                for signs in product("ab?", repeat=mask.count("x")):
                    look = "".join(signs)
                    tracker = Tracker(row, mask)
                    told = find(row, mask, look)
                    self.assertEqual(tracker.see(look), len(told))
                    self.assertEqual((tracker.starts(), tracker.places()), (told, told))

    def test_all_short_ways(self):
        for row in ("", "a", "abbab", "ababa", "aabab", "aaaa", "abcab"):
            for mask in ("x", "xx", "x.x", "x..x"):
                looks = ["".join(signs) for signs in product("ab?", repeat=mask.count("x"))]
                for many in range(1, 4):
                    for way in product(looks, repeat=many):
                        tracker = Tracker(row, mask)
                        counts = [tracker.see(look) for look in way]
                        told = [len(plain_starts(row, mask, way[:at])) for at in range(1, many + 1)]
                        self.assertEqual(counts, told, (row, mask, way))
                        assert_stands(self, tracker, row, mask, list(way))

    def test_along_rows_of_60_letters(self):
        for row, mask in ((UNLIKE, "xxx"), (UNLIKE, "x"), (LONG, "x..........x"), ("a" * 60, "x")):
            tracker = Tracker(row, mask)
            looks = []
            for look in views(row, mask):
                looks.append(look)
                self.assertEqual(tracker.see(look), len(plain_starts(row, mask, looks)))
                assert_stands(self, tracker, row, mask, looks)
            self.assertIn(0, tracker.starts())


class Undo(unittest.TestCase):
    def test_down_to_nothing_and_once_more(self):
        row, mask = "abbab", "x.x"
        looks = ["ab", "??", "bb", "?a", "aa", "b?"]
        tracker = Tracker(row, mask)
        for look in looks:
            tracker.see(look)
        while looks:
            assert_stands(self, tracker, row, mask, looks)
            self.assertIs(tracker.undo(), True)
            looks.pop()
        assert_stands(self, tracker, row, mask, [])
        for _ in range(3):
            self.assertIs(tracker.undo(), False)
            assert_stands(self, tracker, row, mask, [])

    def test_looks_behind_those_that_were_taken_back(self):
        tracker = Tracker("abcabd", "x")
        self.assertEqual([tracker.see("a"), tracker.see("c"), tracker.undo(), tracker.see("b")], [2, 0, True, 2])
        self.assertEqual(tracker.undo(), True)
        self.assertEqual(tracker.undo(), True)
        self.assertEqual(tracker.undo(), False)
        self.assertEqual([tracker.see("d"), tracker.starts()], [1, [5]])
        assert_stands(self, tracker, "abcabd", "x", ["d"])


class Copies(unittest.TestCase):
    def test_a_copy_stands_as_the_first_one(self):
        tracker = Tracker("abbab", "x.x")
        for look in ("?b", "a?", "??", "ab"):
            self.assertEqual(state(tracker.copy()), state(tracker))
            tracker.see(look)
        self.assertEqual(state(tracker.copy()), state(tracker))
        self.assertIsNot(tracker.copy(), tracker)

    def test_copies_go_their_own_ways(self):
        first = Tracker("ababa", "x.x")
        first.see("aa")
        second = first.copy()
        third = second.copy()
        self.assertEqual([first.see("bb"), second.see("??"), third.undo()], [1, 1, True])
        second.see("aa")
        assert_stands(self, first, "ababa", "x.x", ["aa", "bb"])
        assert_stands(self, second, "ababa", "x.x", ["aa", "??", "aa"])
        assert_stands(self, third, "ababa", "x.x", [])
        self.assertEqual([first.undo(), first.undo(), first.undo()], [True, True, False])
        assert_stands(self, second, "ababa", "x.x", ["aa", "??", "aa"])
        self.assertEqual(third.see("bb"), 1)
        assert_stands(self, first, "ababa", "x.x", [])

    def test_trackers_of_the_same_row_are_independent(self):
        one, other = Tracker("abab", "x"), Tracker("abab", "x")
        one.see("a")
        assert_stands(self, other, "abab", "x", [])
        other.see("b")
        other.see("a")
        assert_stands(self, one, "abab", "x", ["a"])


class Lists(unittest.TestCase):
    def test_lists_that_are_told_may_be_changed(self):
        tracker = Tracker("ababa", "x.x")
        for looks in ([], ["aa"], ["aa", "b?"], ["aa", "b?", "bb"]):
            for look in looks[-1:]:
                tracker.see(look)
            for call in (tracker.starts, tracker.places):
                told = call()
                self.assertIsNot(told, call())
                told.append(7)
                told[0] = 9
            assert_stands(self, tracker, "ababa", "x.x", looks)
            assert_stands(self, tracker.copy(), "ababa", "x.x", looks)

    def test_asking_changes_nothing(self):
        tracker = Tracker("ababa", "x.x")
        tracker.see("aa")
        told = state(tracker)
        for _ in range(3):
            self.assertEqual(state(tracker), told)


class WrongValues(unittest.TestCase):
    def test_no_row(self):
        for at, value in enumerate(NO_ROWS):
            with self.subTest(at=at):
                assert_raises(self, BadRow, Tracker, [value, "x.x"])

    def test_no_mask(self):
        for at, value in enumerate(NO_MASKS):
            with self.subTest(at=at):
                assert_raises(self, BadMask, Tracker, ["abab", value])
                assert_raises(self, BadMask, Tracker, ["", value])

    def test_several_wrong_values(self):
        for row in ("abe", None, "a" * 61):
            for mask in ("x.", None, "x" * 13):
                assert_order(self, Tracker, ["ab", "x"], [(row, BadRow), (mask, BadMask)])

    def test_no_look_and_it_stands_as_before(self):
        for row in ("ababa", "", "ab"):
            tracker = Tracker(row, "x.x")
            for looks in ([], ["aa"], ["aa", "??"], ["aa", "??", "??", "??"]):
                while len(tracker) < len(looks):
                    tracker.see(looks[len(tracker)])
                for at, value in enumerate(NO_LOOKS):
                    with self.subTest(at=at, row=row):
                        self.assertEqual(vars(assert_raises(self, BadView, tracker.see, [value])), {})
                        assert_stands(self, tracker, row, "x.x", looks)

    def test_other_signs_in_a_look(self):
        tracker = Tracker("abab", "xx")
        for sign in SIGNS:
            if sign not in "abcd?":
                for look in (sign + "a", "a" + sign):
                    assert_raises(self, BadView, tracker.see, [look])
        self.assertEqual(len(tracker), 0)

    def test_a_look_has_as_many_signs_as_are_seen(self):
        tracker = Tracker("abab", "x" * 12)
        for many in (0, 1, 11, 13):
            assert_raises(self, BadView, tracker.see, ["?" * many])
        self.assertEqual(tracker.see("?" * 12), 0)


if __name__ == "__main__":
    unittest.main()
