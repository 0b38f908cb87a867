"""Point [1]: what holds for all calls of these modules."""

import copy
import unittest

from holedwindows.apart import apart_rows, longest_apart
from holedwindows.both import both_alike, both_find, both_views
from holedwindows.choosing import best_masks, least_masks
from holedwindows.endless import first_again, told_to, view_far
from holedwindows.errors import (
    BadLetters, BadMask, BadNumber, BadRow, BadSteps, WindowError)
from holedwindows.finding import find, near, steps_needed
from holedwindows.joining import first_clash, joined, rows_from, sure_from
from holedwindows.longest import count_rows, farthest, longest, longest_rows, next_letters
from holedwindows.masks import seen, together
from holedwindows.mending import mend, weak_letters
from holedwindows.moves import starts_by, steps_tell, strided
from holedwindows.rings import full_rings, longest_ring, ring_tells, ring_views
from holedwindows.texts import read, write
from holedwindows.trackers import Tracker
from holedwindows.unread import fill_counts, first_filling, sure_letters
from holedwindows.views import alike, distance, groups, stands, tells, views
from tests.checking import assert_raises, raised
from tests.interface import ARGUMENTS
from tests.values import HUGE, NO_MASKS, NO_ROWS, NO_STRINGS

# Each function with arguments that it takes, and what it returns for them.
CALLS = [
    (seen, ["x.xx"], [0, 2, 3]),
    (together, ["x.x", "xx", 1], "xxx"),
    (views, ["abbab", "x.x"], ["ab", "ba", "bb"]),
    (tells, ["abbab", "x.x"], True),
    (alike, ["ababa", "x.x"], (0, 2)),
    (groups, ["ababa", "x.x"], [(0, 2)]),
    (distance, ["abbab", "x.x"], 1),
    (stands, ["abbab", "x.x", 0, 1], False),
    (find, ["abbab", "x.x", "b?"], [1, 2]),
    (near, ["abbab", "x.x", "aa", 1], [0, 1]),
    (steps_needed, ["ababa", "x.x"], 2),
    (longest, ["x.x", 2], 6),
    (longest_rows, ["x.x", 2], ["ababba", "abbaba", "baabab", "babaab"]),
    (count_rows, ["x.x", 2, 5], 12),
    (next_letters, ["ababb", "x.x", 2], "a"),
    (farthest, ["abba", "x.x", 2], 6),
    (ring_views, ["aab", "x.x"], ["ab", "aa", "ba"]),
    (ring_tells, ["aab", "x.x"], True),
    (longest_ring, ["x.x", 2], "aab"),
    (full_rings, ["xx", 2], ["aabb"]),
    (best_masks, [2, 4, 2], (7, ["x..x"])),
    (least_masks, ["abbab", 3], ["x.x"]),
    (joined, ["x.x", ["ab", "??"]], "a?b?"),
    (first_clash, ["x.x", ["ab", "ba", "ab"]], 2),
    (rows_from, ["x.x", ["ab", "bb", "ba"]], ["abbab", "abbba", "babba", "bbabb"]),
    (sure_from, ["xx", ["ab", "bb"]], "abb"),
    (mend, ["ababa", "x.x", 2], (1, "ababb")),
    (weak_letters, ["abbab", "x.x", 2], [(1, "a"), (2, "a")]),
    (write, ["x.x", "abba"], "x.x abba"),
    (read, ["x.x  abba"], ("x.x", "abba")),
    (both_views, ["aab", "x.x"], [((0, "on"), "ab"), ((2, "back"), "ba")]),
    (both_alike, ["aba", "x.x"], ((0, "on"), (2, "back"))),
    (both_find, ["aab", "x.x", "?b"], [(0, "on")]),
    (longest_apart, ["xx", 2, 2], 3),
    (apart_rows, ["xx", 2, 2], ["aba", "bab"]),
    (fill_counts, ["a?a", "xx", 2], (1, 2)),
    (first_filling, ["a?a", "xx", 2], "aba"),
    (sure_letters, ["a?a", "xx", 2], "aba"),
    (starts_by, ["abbabb", "x.x", ["ab", "?b"], [2]], [0]),
    (steps_tell, ["aabab", "x", [2]], True),
    (strided, ["aabab", "x", 2], 2),
    (first_again, ["aab", "xx"], (0, 3)),
    (told_to, ["aab", "xx"], 4),
    (view_far, ["aab", "x.x", 5], "ba"),
]
# Each function that takes a number from 0 on, with the places of its numbers.
FROM_0 = [
    (together, ["x.x", "xx", 1], [2]),
    (stands, ["abbab", "x.x", 0, 1], [2, 3]),
    (near, ["abbab", "x.x", "aa", 1], [3]),
    (count_rows, ["x.x", 2, 5], [2]),
    (view_far, ["aab", "x.x", 5], [2]),
]
# Likewise of numbers from 1 on.
FROM_1 = [
    (best_masks, [2, 4, 2], [0, 1]),
    (least_masks, ["abbab", 3], [1]),
    (longest_apart, ["xx", 2, 2], [2]),
    (apart_rows, ["xx", 2, 2], [2]),
    (strided, ["aabab", "x", 2], [2]),
]
OF_NUMBERS = FROM_0 + FROM_1
# Each call with the place of an argument for which any value may be passed.
OF_ANY_VALUE = [
    (call, arguments, at) for call, arguments, _ in CALLS
    for at, name in enumerate(ARGUMENTS[call.__name__]) if name != "text"]
# Each call that takes masks or rows, with the names of its arguments.
OF_MASKS_AND_ROWS = [
    (call, arguments, ARGUMENTS[call.__name__]) for call, arguments, _ in CALLS
] + [(Tracker, ["ababa", "x.x"], ["row", "mask"])]
# For these the row is passed first, but the mask is named first.
MASK_NAMED_FIRST = [next_letters, farthest, mend, weak_letters]
NESTED = [
    [1], [[1]], [[1], [2, [3]]], {"a": [1]}, ([1], {"b": {"c": [2]}}), {(1, 2): [{}]}, [{"a": 1}],
]


class Calls(unittest.TestCase):
    def test_each_function_of_the_interface_is_among_them(self):
        self.assertEqual(sorted(call.__name__ for call, _, _ in CALLS), sorted(ARGUMENTS))


class Results(unittest.TestCase):
    def test_equal_calls_give_equal_results(self):
        for call, arguments, told in CALLS + CALLS[::-1]:
            with self.subTest(call=call.__name__):
                self.assertEqual(call(*arguments), told)
                self.assertEqual(call(*arguments), told)

    def test_results_are_of_the_kinds_that_are_told(self):
        for call, arguments, told in CALLS:
            with self.subTest(call=call.__name__):
                self.assertIs(type(call(*arguments)), type(told))

    def test_arguments_may_be_given_by_their_names(self):
        for call, arguments, told in CALLS:
            with self.subTest(call=call.__name__):
                keywords = dict(zip(ARGUMENTS[call.__name__], arguments))
                self.assertEqual(call(**keywords), told)

    def test_returned_lists_are_new(self):
        for call, arguments, told in CALLS:
            if isinstance(told, list):
                with self.subTest(call=call.__name__):
                    first = call(*arguments)
                    self.assertIsNot(first, call(*arguments))
                    first.append("more")
                    first[0] = "other"
                    self.assertEqual(call(*arguments), told)

    def test_returned_lists_are_new_where_they_are_empty(self):
        for call, arguments in ((views, ["", "x"]), (groups, ["", "x"]), (find, ["", "x", "a"]),
                                (near, ["", "x", "a", 0]), (full_rings, ["x.x", 2]),
                                (least_masks, ["", 1]), (rows_from, ["xx", ["ab", "ab"]]),
                                (weak_letters, ["", "x", 2]), (both_views, ["", "x"]),
                                (both_find, ["", "x", "a"]), (starts_by, ["", "x", ["a"], []])):
            with self.subTest(call=call.__name__):
                call(*arguments).append("more")
                self.assertEqual(call(*arguments), [])

    def test_a_list_in_a_returned_pair_is_new(self):
        for arguments in ([2, 4, 2], [3, 2, 2]):
            before = copy.deepcopy(best_masks(*arguments))
            best_masks(*arguments)[1].append("more")
            self.assertEqual(best_masks(*arguments), before)

    def test_arguments_are_not_changed(self):
        for call, arguments, told in CALLS:
            with self.subTest(call=call.__name__):
                passed = copy.deepcopy(arguments)
                call(*passed)
                self.assertEqual(passed, arguments)

    def test_later_changes_of_an_argument_have_no_effect(self):
        for call, arguments, told in CALLS:
            passed = copy.deepcopy(arguments)
            first = call(*passed)
            for argument in passed:
                if isinstance(argument, list):
                    with self.subTest(call=call.__name__):
                        change_within(argument)
                        argument.clear()
                        self.assertEqual(first, told)
                        self.assertEqual(call(*arguments), told)

    def test_tuples_are_the_same_as_lists(self):
        for call, arguments, told in CALLS:
            for at, argument in enumerate(arguments):
                if isinstance(argument, list):
                    with self.subTest(call=call.__name__, at=at):
                        passed = arguments[:at] + [tuple(argument)] + arguments[at + 1:]
                        self.assertEqual(call(*passed), told)


class Errors(unittest.TestCase):
    def test_a_call_that_raises_an_error_changes_nothing(self):
        for call, arguments, at in OF_ANY_VALUE:
            told = call(*arguments)
            for value in NO_STRINGS + ["", "x.", "abe", 13, -1]:
                wrong = list(arguments)
                wrong[at] = copy.deepcopy(value)
                raised(call, wrong)
                self.assertEqual(wrong[at], value)
                self.assertIs(type(wrong[at]), type(value))
            with self.subTest(call=call.__name__):
                self.assertEqual(call(*arguments), told)

    def test_any_value_is_refused_by_an_error_of_the_package(self):
        for call, arguments, at in OF_ANY_VALUE:
            for value in NO_STRINGS + NESTED:
                if isinstance(arguments[at], int) and value in (0, 1):
                    continue
                # Lists of no steps, and of one step, are right ones.
                if ARGUMENTS[call.__name__][at] == "steps" and value in ([], (), [1]):
                    continue
                wrong = list(arguments)
                wrong[at] = value
                error = raised(call, wrong)
                self.assertIsInstance(error, WindowError, (call.__name__, at))
                self.assertEqual(type(error).__bases__, (WindowError,))

    def test_equal_wrong_calls_raise_equal_errors(self):
        for call, arguments, places in OF_NUMBERS:
            wrong = list(arguments)
            wrong[places[0]] = -1
            first, second = raised(call, wrong), raised(call, wrong)
            self.assertIs(type(first), type(second))
            self.assertEqual(first.n, second.n)

    def test_later_changes_of_a_wrong_value_do_not_reach_the_error(self):
        for call, arguments, places in OF_NUMBERS:
            for at in places:
                for value in NESTED:
                    with self.subTest(call=call.__name__, value=value):
                        wrong = list(arguments)
                        wrong[at] = copy.deepcopy(value)
                        error = raised(call, wrong)
                        change_within(wrong[at])
                        self.assertNotEqual(wrong[at], value)
                        self.assertEqual(error.n, value)


def change_within(value):
    """Change each list and each dict that stands anywhere in a value."""
    parts = list(value.values()) if isinstance(value, dict) else list(value)
    for part in parts:
        if isinstance(part, (list, tuple, dict)):
            change_within(part)
    if isinstance(value, list):
        value.append("more")
    if isinstance(value, dict):
        value["more"] = "more"


class MasksAndRows(unittest.TestCase):
    def test_no_mask(self):
        for call, arguments, names in OF_MASKS_AND_ROWS:
            for at, name in enumerate(names):
                if name in ("mask", "one", "other"):
                    for value in NO_MASKS:
                        wrong = arguments[:at] + [value] + arguments[at + 1:]
                        assert_raises(self, BadMask, call, wrong)

    def test_no_row(self):
        for call, arguments, names in OF_MASKS_AND_ROWS:
            if "row" in names:
                at = names.index("row")
                for value in NO_ROWS:
                    wrong = arguments[:at] + [value] + arguments[at + 1:]
                    assert_raises(self, BadRow, call, wrong)

    def test_neither(self):
        for call, arguments, names in OF_MASKS_AND_ROWS:
            if "row" in names and "mask" in names:
                row, mask = names.index("row"), names.index("mask")
                kind = BadMask if mask < row or call in MASK_NAMED_FIRST else BadRow
                for no_row in ("abe", "a" * 61, None, [], "x.x"):
                    for no_mask in ("x.", "", "x" * 13, None, {}, "ab"):
                        wrong = list(arguments)
                        wrong[row], wrong[mask] = no_row, no_mask
                        assert_raises(self, kind, call, wrong)


class Integers(unittest.TestCase):
    def test_true_and_false_are_no_integers(self):
        for call, arguments, places in OF_NUMBERS:
            for at in places:
                for value in (True, False):
                    with self.subTest(call=call.__name__, at=at, value=value):
                        wrong = list(arguments)
                        wrong[at] = value
                        error = raised(call, wrong)
                        self.assertIs(type(error), BadNumber)
                        self.assertIs(error.n, value)

    def test_true_and_false_are_no_numbers_of_letters(self):
        for call, arguments, told in CALLS:
            names = ARGUMENTS[call.__name__]
            if "letters" in names:
                for value in (True, False):
                    with self.subTest(call=call.__name__, value=value):
                        wrong = list(arguments)
                        wrong[names.index("letters")] = value
                        self.assertIs(type(raised(call, wrong)), BadLetters)

    def test_true_and_false_are_no_steps(self):
        for value in (True, False):
            for steps in ([value], [0, value], (1, -1, value)):
                looks = ["a"] * (len(steps) + 1)
                for error in (raised(steps_tell, ["abab", "x", steps]),
                              raised(starts_by, ["abab", "x", looks, steps])):
                    self.assertIs(type(error), BadSteps)
                    self.assertEqual(error.index, len(steps) - 1)

    def test_zero_and_one_are_integers(self):
        for call, arguments, places in OF_NUMBERS:
            for at in places:
                for value in (0, 1) if (call, arguments, places) in FROM_0 else (1,):
                    right = list(arguments)
                    right[at] = value
                    self.assertIsNone(raised(call, right))

    def test_numbers_of_very_many_digits_are_any_value_too(self):
        for call, arguments, places in OF_NUMBERS:
            for at in places:
                for value in (HUGE, -HUGE, [HUGE]):
                    wrong = list(arguments)
                    wrong[at] = value
                    self.assertEqual(raised(call, wrong).n, value)


if __name__ == "__main__":
    unittest.main()
