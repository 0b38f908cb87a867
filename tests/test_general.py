"""Point [1]: what holds for all calls of these modules."""

import copy
import unittest

from holedwindows.errors import BadNumber, WindowError
from holedwindows.finding import find, near, steps_needed
from holedwindows.masks import seen, together
from holedwindows.views import alike, distance, groups, stands, tells, views
from tests.checking import raised
from tests.values import HUGE, NO_STRINGS

# Each function with arguments that it takes, and what it returns for them.
CALLS = [
    (seen, ["x.xx"], [0, 2, 3]),
    (together, ["x.x", "xx", 1], "xxx"),
    (views, ["abbab", "x.x"], ["ab", "ba", "bb"]),
    (tells, ["abbab", "x.x"], True),
    (alike, ["ababa", "x.x"], (0, 2)),
    (groups, ["ababa", "x.x"], [(0, 2)]),
    (distance, ["abbab", "x.x"], 1),
    (stands, ["abbab", "x.x", 0, 1], False),
    (find, ["abbab", "x.x", "b?"], [1, 2]),
    (near, ["abbab", "x.x", "aa", 1], [0, 1]),
    (steps_needed, ["ababa", "x.x"], 2),
]
# Each function that takes a number, with the places of its numbers.
OF_NUMBERS = [
    (together, ["x.x", "xx", 1], [2]),
    (stands, ["abbab", "x.x", 0, 1], [2, 3]),
    (near, ["abbab", "x.x", "aa", 1], [3]),
]
NESTED = [
    [1], [[1]], [[1], [2, [3]]], {"a": [1]}, ([1], {"b": {"c": [2]}}), {(1, 2): [{}]}, [{"a": 1}],
]


class Results(unittest.TestCase):
    def test_equal_calls_give_equal_results(self):
        for call, arguments, told in CALLS + CALLS[::-1]:
            with self.subTest(call=call.__name__):
                self.assertEqual(call(*arguments), told)
                self.assertEqual(call(*arguments), told)

    def test_results_are_of_the_kinds_that_are_told(self):
        for call, arguments, told in CALLS:
            with self.subTest(call=call.__name__):
                self.assertIs(type(call(*arguments)), type(told))

    def test_arguments_may_be_given_by_their_names(self):
        names = {
            seen: ["mask"], together: ["one", "other", "far"], near: ["row", "mask", "told", "wrong"],
            find: ["row", "mask", "told"], stands: ["row", "mask", "wrong", "covered"],
        }
        for call, arguments, told in CALLS:
            with self.subTest(call=call.__name__):
                keywords = dict(zip(names.get(call, ["row", "mask"]), arguments))
                self.assertEqual(call(**keywords), told)

    def test_returned_lists_are_new(self):
        for call, arguments, told in CALLS:
            if isinstance(told, list):
                with self.subTest(call=call.__name__):
                    first = call(*arguments)
                    self.assertIsNot(first, call(*arguments))
                    first.append("more")
                    first[0] = "other"
                    self.assertEqual(call(*arguments), told)

    def test_returned_lists_are_new_where_they_are_empty(self):
        for call, arguments in ((views, ["", "x"]), (groups, ["", "x"]), (find, ["", "x", "a"]),
                                (near, ["", "x", "a", 0])):
            with self.subTest(call=call.__name__):
                call(*arguments).append("more")
                self.assertEqual(call(*arguments), [])


class Errors(unittest.TestCase):
    def test_a_call_that_raises_an_error_changes_nothing(self):
        for call, arguments, told in CALLS:
            for at in range(len(arguments)):
                for value in NO_STRINGS + ["", "x.", "abe", 13, -1]:
                    wrong = list(arguments)
                    wrong[at] = copy.deepcopy(value)
                    raised(call, wrong)
                    self.assertEqual(wrong[at], value)
                    self.assertIs(type(wrong[at]), type(value))
            with self.subTest(call=call.__name__):
                self.assertEqual(call(*arguments), told)

    def test_any_value_is_refused_by_an_error_of_the_package(self):
        for call, arguments, _ in CALLS:
            for at in range(len(arguments)):
                for value in NO_STRINGS + NESTED:
                    if isinstance(arguments[at], int) and value in (0, 1):
                        continue
                    wrong = list(arguments)
                    wrong[at] = value
                    self.assertIsInstance(raised(call, wrong), WindowError, (call.__name__, at))

    def test_equal_wrong_calls_raise_equal_errors(self):
        for call, arguments, places in OF_NUMBERS:
            wrong = list(arguments)
            wrong[places[0]] = 13
            first, second = raised(call, wrong), raised(call, wrong)
            self.assertIs(type(first), type(second))
            self.assertEqual(first.n, second.n)

    def test_later_changes_of_a_wrong_value_do_not_reach_the_error(self):
        for call, arguments, places in OF_NUMBERS:
            for at in places:
                for value in NESTED:
                    with self.subTest(call=call.__name__, value=value):
                        wrong = list(arguments)
                        wrong[at] = copy.deepcopy(value)
                        error = raised(call, wrong)
                        change_within(wrong[at])
                        self.assertNotEqual(wrong[at], value)
                        self.assertEqual(error.n, value)


def change_within(value):
    """Change each list and each dict that stands anywhere in a value."""
    parts = list(value.values()) if isinstance(value, dict) else list(value)
    for part in parts:
        if isinstance(part, (list, tuple, dict)):
            change_within(part)
    if isinstance(value, list):
        value.append("more")
    if isinstance(value, dict):
        value["more"] = "more"


class Integers(unittest.TestCase):
    def test_true_and_false_are_no_integers(self):
        for call, arguments, places in OF_NUMBERS:
            for at in places:
                for value in (True, False):
                    with self.subTest(call=call.__name__, at=at, value=value):
                        wrong = list(arguments)
                        wrong[at] = value
                        error = raised(call, wrong)
                        self.assertIs(type(error), BadNumber)
                        self.assertIs(error.n, value)

    def test_zero_and_one_are_integers(self):
        for call, arguments, places in OF_NUMBERS:
            for at in places:
                for value in (0, 1):
                    right = list(arguments)
                    right[at] = value
                    self.assertIsNone(raised(call, right))

    def test_numbers_of_very_many_digits_are_any_value_too(self):
        for call, arguments, places in OF_NUMBERS:
            for at in places:
                for value in (HUGE, -HUGE, [HUGE]):
                    wrong = list(arguments)
                    wrong[at] = value
                    self.assertEqual(raised(call, wrong).n, value)


if __name__ == "__main__":
    unittest.main()
