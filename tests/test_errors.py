"""The errors: their classes, their fields, and that they stand by themselves."""

import ast
import unittest

from holedwindows import errors
from tests.values import HUGE

PLAIN = ["BadMask", "BadRow", "BadView", "BadLetters", "TooGreat", "BadPattern"]
WITH_FIELD = {
    "BadViews": "index", "BadNumber": "n", "TooLong": "most", "TooMany": "most",
    "BadSteps": "index", "InvalidText": "word",
}


class Classes(unittest.TestCase):
    def test_the_base_is_directly_under_value_error(self):
        self.assertEqual(errors.WindowError.__bases__, (ValueError,))

    def test_each_error_is_directly_under_the_base(self):
        for name in PLAIN + list(WITH_FIELD):
            with self.subTest(name=name):
                self.assertEqual(getattr(errors, name).__bases__, (errors.WindowError,))

    def test_there_are_no_other_classes(self):
        with open(errors.__file__, encoding="utf-8") as file:
            tree = ast.parse(file.read())
        names = [node.name for node in tree.body if isinstance(node, ast.ClassDef)]
        self.assertEqual(sorted(names), sorted(["WindowError"] + PLAIN + list(WITH_FIELD)))

    def test_each_error_is_caught_by_the_base_only_as_itself(self):
        for name in PLAIN:
            with self.subTest(name=name):
                kind = getattr(errors, name)
                with self.assertRaises(errors.WindowError) as caught:
                    raise kind("words")
                self.assertIs(type(caught.exception), kind)


class Fields(unittest.TestCase):
    def test_fields_are_set_when_the_error_is_created(self):
        for name, field in WITH_FIELD.items():
            for value in (0, 7, None):
                with self.subTest(name=name, value=value):
                    error = getattr(errors, name)(value)
                    self.assertEqual(vars(error), {field: value})

    def test_fields_can_be_given_by_name(self):
        for name, field in WITH_FIELD.items():
            with self.subTest(name=name):
                error = getattr(errors, name)(**{field: 3})
                self.assertEqual(getattr(error, field), 3)

    def test_errors_with_fields_have_words(self):
        for name in WITH_FIELD:
            with self.subTest(name=name):
                self.assertNotEqual(str(getattr(errors, name)(HUGE)), "")


class ValueOfBadNumber(unittest.TestCase):
    def test_it_is_the_value_and_of_its_kind(self):
        for value in (None, True, False, 0, 13, -1, "1", (), [], {}, (1, "a"), [1, None], [True],
                      {"a": 1, (2, 3): True}, [(1, [2, {"b": (3,)}]), [], {}], ({"k": []}, [()])):
            with self.subTest(value=value):
                held = errors.BadNumber(value).n
                self.assertIs(type(held), type(value))
                self.assertEqual(held, value)
                self.assertEqual(repr(held), repr(value))

    def test_it_may_have_very_many_digits(self):
        self.assertEqual(errors.BadNumber(HUGE).n, HUGE)
        self.assertEqual(errors.BadNumber([-HUGE]).n, [-HUGE])

    def test_a_later_change_of_a_list_or_dict_has_no_effect(self):
        flat = [1, 2]
        inner = [5]
        table = {"a": inner, "b": (inner, {"c": inner})}
        first, second = errors.BadNumber(flat), errors.BadNumber((table, flat))
        flat.append(3)
        inner.append(6)
        table["z"] = 0
        self.assertEqual(first.n, [1, 2])
        self.assertEqual(second.n, ({"a": [5], "b": ([5], {"c": [5]})}, [1, 2]))

    def test_a_change_of_what_the_error_holds_does_not_reach_the_value(self):
        value = [[1], {"a": [2]}]
        held = errors.BadNumber(value).n
        held[0].append(9)
        held[1]["a"].append(9)
        held.append(9)
        self.assertEqual(value, [[1], {"a": [2]}])

    def test_values_may_be_nested_very_deep(self):
        value = [0]
        for _ in range(20000):
            value = [value]
        held = errors.BadNumber(value).n
        depth = 0
        while isinstance(held[0], list):
            held = held[0]
            depth += 1
        self.assertEqual((depth, held), (20000, [0]))


if __name__ == "__main__":
    unittest.main()
