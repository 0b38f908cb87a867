"""Point [1]: what holds for all calls of these modules."""

import copy
import unittest

from holedwindows.choosing import best_masks, least_masks
from holedwindows.errors import BadLetters, BadNumber, WindowError
from holedwindows.finding import find, near, steps_needed
from holedwindows.joining import first_clash, joined, rows_from, sure_from
from holedwindows.longest import count_rows, farthest, longest, longest_rows, next_letters
from holedwindows.masks import seen, together
from holedwindows.rings import full_rings, longest_ring, ring_tells, ring_views
from holedwindows.views import alike, distance, groups, stands, tells, views
from tests.checking import raised
from tests.values import HUGE, NO_STRINGS

# Each function with arguments that it takes, and what it returns for them.
CALLS = [
    (seen, ["x.xx"], [0, 2, 3]),
    (together, ["x.x", "xx", 1], "xxx"),
    (views, ["abbab", "x.x"], ["ab", "ba", "bb"]),
    (tells, ["abbab", "x.x"], True),
    (alike, ["ababa", "x.x"], (0, 2)),
    (groups, ["ababa", "x.x"], [(0, 2)]),
    (distance, ["abbab", "x.x"], 1),
    (stands, ["abbab", "x.x", 0, 1], False),
    (find, ["abbab", "x.x", "b?"], [1, 2]),
    (near, ["abbab", "x.x", "aa", 1], [0, 1]),
    (steps_needed, ["ababa", "x.x"], 2),
    (longest, ["x.x", 2], 6),
    (longest_rows, ["x.x", 2], ["ababba", "abbaba", "baabab", "babaab"]),
    (count_rows, ["x.x", 2, 5], 12),
    (next_letters, ["ababb", "x.x", 2], "a"),
    (farthest, ["abba", "x.x", 2], 6),
    (ring_views, ["aab", "x.x"], ["ab", "aa", "ba"]),
    (ring_tells, ["aab", "x.x"], True),
    (longest_ring, ["x.x", 2], "aab"),
    (full_rings, ["xx", 2], ["aabb"]),
    (best_masks, [2, 4, 2], (7, ["x..x"])),
    (least_masks, ["abbab", 3], ["x.x"]),
    (joined, ["x.x", ["ab", "??"]], "a?b?"),
    (first_clash, ["x.x", ["ab", "ba", "ab"]], 2),
    (rows_from, ["x.x", ["ab", "bb", "ba"]], ["abbab", "abbba", "babba", "bbabb"]),
    (sure_from, ["xx", ["ab", "bb"]], "abb"),
]
# The names of the arguments, for those that take others than a row and a mask.
NAMES = {
    seen: ["mask"], together: ["one", "other", "far"], near: ["row", "mask", "told", "wrong"],
    find: ["row", "mask", "told"], stands: ["row", "mask", "wrong", "covered"],
    longest: ["mask", "letters"], longest_rows: ["mask", "letters"],
    count_rows: ["mask", "letters", "length"], next_letters: ["row", "mask", "letters"],
    farthest: ["row", "mask", "letters"], longest_ring: ["mask", "letters"],
    full_rings: ["mask", "letters"], best_masks: ["many", "width", "letters"],
    least_masks: ["row", "width"], joined: ["mask", "views"], first_clash: ["mask", "views"],
    rows_from: ["mask", "views"], sure_from: ["mask", "views"],
}
# Each function that takes a number from 0 on, with the places of its numbers.
FROM_0 = [
    (together, ["x.x", "xx", 1], [2]),
    (stands, ["abbab", "x.x", 0, 1], [2, 3]),
    (near, ["abbab", "x.x", "aa", 1], [3]),
    (count_rows, ["x.x", 2, 5], [2]),
]
# Likewise of numbers from 1 on.
FROM_1 = [
    (best_masks, [2, 4, 2], [0, 1]),
    (least_masks, ["abbab", 3], [1]),
]
OF_NUMBERS = FROM_0 + FROM_1
NESTED = [
    [1], [[1]], [[1], [2, [3]]], {"a": [1]}, ([1], {"b": {"c": [2]}}), {(1, 2): [{}]}, [{"a": 1}],
]


class Results(unittest.TestCase):
    def test_equal_calls_give_equal_results(self):
        for call, arguments, told in CALLS + CALLS[::-1]:
            with self.subTest(call=call.__name__):
                self.assertEqual(call(*arguments), told)
                self.assertEqual(call(*arguments), told)

    def test_results_are_of_the_kinds_that_are_told(self):
        for call, arguments, told in CALLS:
            with self.subTest(call=call.__name__):
                self.assertIs(type(call(*arguments)), type(told))

    def test_arguments_may_be_given_by_their_names(self):
        for call, arguments, told in CALLS:
            with self.subTest(call=call.__name__):
                keywords = dict(zip(NAMES.get(call, ["row", "mask"]), arguments))
                self.assertEqual(call(**keywords), told)

    def test_returned_lists_are_new(self):
        for call, arguments, told in CALLS:
            if isinstance(told, list):
                with self.subTest(call=call.__name__):
                    first = call(*arguments)
                    self.assertIsNot(first, call(*arguments))
                    first.append("more")
                    first[0] = "other"
                    self.assertEqual(call(*arguments), told)

    def test_returned_lists_are_new_where_they_are_empty(self):
        for call, arguments in ((views, ["", "x"]), (groups, ["", "x"]), (find, ["", "x", "a"]),
                                (near, ["", "x", "a", 0]), (full_rings, ["x.x", 2]),
                                (least_masks, ["", 1]), (rows_from, ["xx", ["ab", "ab"]])):
            with self.subTest(call=call.__name__):
                call(*arguments).append("more")
                self.assertEqual(call(*arguments), [])

    def test_a_list_in_a_returned_pair_is_new(self):
        for arguments in ([2, 4, 2], [3, 2, 2]):
            before = copy.deepcopy(best_masks(*arguments))
            best_masks(*arguments)[1].append("more")
            self.assertEqual(best_masks(*arguments), before)

    def test_arguments_are_not_changed(self):
        for call, arguments, told in CALLS:
            with self.subTest(call=call.__name__):
                passed = copy.deepcopy(arguments)
                call(*passed)
                self.assertEqual(passed, arguments)


class Errors(unittest.TestCase):
    def test_a_call_that_raises_an_error_changes_nothing(self):
        for call, arguments, told in CALLS:
            for at in range(len(arguments)):
                for value in NO_STRINGS + ["", "x.", "abe", 13, -1]:
                    wrong = list(arguments)
                    wrong[at] = copy.deepcopy(value)
                    raised(call, wrong)
                    self.assertEqual(wrong[at], value)
                    self.assertIs(type(wrong[at]), type(value))
            with self.subTest(call=call.__name__):
                self.assertEqual(call(*arguments), told)

    def test_any_value_is_refused_by_an_error_of_the_package(self):
        for call, arguments, _ in CALLS:
            for at in range(len(arguments)):
                for value in NO_STRINGS + NESTED:
                    if isinstance(arguments[at], int) and value in (0, 1):
                        continue
                    wrong = list(arguments)
                    wrong[at] = value
                    self.assertIsInstance(raised(call, wrong), WindowError, (call.__name__, at))

    def test_equal_wrong_calls_raise_equal_errors(self):
        for call, arguments, places in OF_NUMBERS:
            wrong = list(arguments)
            wrong[places[0]] = 61
            first, second = raised(call, wrong), raised(call, wrong)
            self.assertIs(type(first), type(second))
            self.assertEqual(first.n, second.n)

    def test_later_changes_of_a_wrong_value_do_not_reach_the_error(self):
        for call, arguments, places in OF_NUMBERS:
            for at in places:
                for value in NESTED:
                    with self.subTest(call=call.__name__, value=value):
                        wrong = list(arguments)
                        wrong[at] = copy.deepcopy(value)
                        error = raised(call, wrong)
                        change_within(wrong[at])
                        self.assertNotEqual(wrong[at], value)
                        self.assertEqual(error.n, value)


def change_within(value):
    """Change each list and each dict that stands anywhere in a value."""
    parts = list(value.values()) if isinstance(value, dict) else list(value)
    for part in parts:
        if isinstance(part, (list, tuple, dict)):
            change_within(part)
    if isinstance(value, list):
        value.append("more")
    if isinstance(value, dict):
        value["more"] = "more"


class Integers(unittest.TestCase):
    def test_true_and_false_are_no_integers(self):
        for call, arguments, places in OF_NUMBERS:
            for at in places:
                for value in (True, False):
                    with self.subTest(call=call.__name__, at=at, value=value):
                        wrong = list(arguments)
                        wrong[at] = value
                        error = raised(call, wrong)
                        self.assertIs(type(error), BadNumber)
                        self.assertIs(error.n, value)

    def test_true_and_false_are_no_numbers_of_letters(self):
        for call, arguments, told in CALLS:
            if "letters" in NAMES.get(call, []):
                for value in (True, False):
                    with self.subTest(call=call.__name__, value=value):
                        wrong = list(arguments)
                        wrong[NAMES[call].index("letters")] = value
                        self.assertIs(type(raised(call, wrong)), BadLetters)

    def test_zero_and_one_are_integers(self):
        for call, arguments, places in OF_NUMBERS:
            for at in places:
                for value in (0, 1) if (call, arguments, places) in FROM_0 else (1,):
                    right = list(arguments)
                    right[at] = value
                    self.assertIsNone(raised(call, right))

    def test_numbers_of_very_many_digits_are_any_value_too(self):
        for call, arguments, places in OF_NUMBERS:
            for at in places:
                for value in (HUGE, -HUGE, [HUGE]):
                    wrong = list(arguments)
                    wrong[at] = value
                    self.assertEqual(raised(call, wrong).n, value)


if __name__ == "__main__":
    unittest.main()
