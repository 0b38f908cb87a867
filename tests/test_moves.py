"""Point [18]: looks by steps."""

import copy
import unittest
from itertools import product

from holedwindows.errors import BadMask, BadNumber, BadRow, BadSteps, BadViews
from holedwindows.finding import find, steps_needed
from holedwindows.moves import starts_by, steps_tell, strided
from holedwindows.trackers import Tracker
from holedwindows.views import tells
from tests.checking import assert_bad_number, assert_field, assert_order, assert_raises
from tests.values import (
    HUGE, NO_INTEGERS, NO_LISTS_OF_LOOKS, NO_LOOKS, NO_MASKS, NO_ROWS, UNLIKE, masks, plain_tells,
    plain_views, strings)

LONG = "abcd" * 15
NO_STEPS = NO_INTEGERS + [13, -13, 60, -60, HUGE, -HUGE, "12", (12,), [-12]]
NO_LISTS_OF_STEPS = [
    None, True, False, 0, 1, -12, HUGE, "", "1", "11", {}, {0: 1}, {1: 0, 2: 0}, [0] * 60, (1,) * 60,
    [0] * 61, [None] * 60, [0] * 1000,
]


def plain_walk(first, steps):
    """Return the places of all looks, the first one ahead of all."""
    places = [first]
    for step in steps:
        places.append(places[-1] + step)
    return places


def plain_firsts(row, mask, steps):
    """Return the dict from each first place to the tuple of the views by these steps."""
    told = dict(enumerate(plain_views(row, mask)))
    found = {}
    for first in told:
        places = plain_walk(first, steps)
        if all(place in told for place in places):
            found[first] = tuple(told[place] for place in places)
    return found


def plain_starts(row, mask, looks, steps):
    """Return what starts_by tells, sign by sign."""
    return [
        first for first, told in plain_firsts(row, mask, steps).items()
        if all(sign in ("?", letter) for sign, letter in zip("".join(looks), "".join(told)))]


def plain_steps_tell(row, mask, steps):
    """Return what steps_tell tells, by comparing each first place with each other one."""
    told = list(plain_firsts(row, mask, steps).values())
    return all(told[one] != told[other] for one in range(len(told)) for other in range(one))


def plain_strided(row, mask, step):
    """Return what strided tells, with more and more looks."""
    for many in range(1, 62):
        steps = [step] * (many - 1)
        if not plain_firsts(row, mask, steps):
            return None
        if plain_steps_tell(row, mask, steps):
            return many
    return None


class Examples(unittest.TestCase):
    def test_the_first_of_the_interface(self):
        self.assertEqual(
            [starts_by("aabab", "x", ["a", "b"], [1]), starts_by("aabab", "x", ["a", "b"], [2]),
             steps_tell("aabab", "x", [1]), steps_tell("aabab", "x", [2])],
            [[1, 3], [0], False, True])

    def test_the_second_of_the_interface(self):
        self.assertEqual(
            [strided("aabab", "x", 1), strided("aabab", "x", 2), strided("aaaa", "x", 2)], [3, 2, None])


class StartsBy(unittest.TestCase):
    def test_steps_ahead_and_back_and_0(self):
        row = "abcdabca"
        self.assertEqual(starts_by(row, "x", ["a", "b"], [1]), [0, 4])
        self.assertEqual(starts_by(row, "x", ["b", "a"], [-1]), [1, 5])
        self.assertEqual(starts_by(row, "x", ["a", "a"], [0]), [0, 4, 7])
        self.assertEqual(starts_by(row, "x", ["a", "b"], [0]), [])
        self.assertEqual(starts_by(row, "x", ["c", "a"], [-2]), [2, 6])
        self.assertEqual(starts_by(row, "x", ["a", "a", "a"], [4, 3]), [0])
        self.assertEqual(starts_by(row, "x", ["a", "a", "a"], [-3, -4]), [7])
        self.assertEqual(starts_by(row, "x", ["b", "c", "b"], [1, -1]), [1, 5])

    def test_the_looks_are_taken_one_after_each_step_and_one_ahead_of_all(self):
        self.assertEqual(starts_by("abcd", "x", ["a", "b", "d"], [1, 2]), [0])
        self.assertEqual(starts_by("abcd", "x", ["a", "b", "d"], [2, 1]), [])
        self.assertEqual(starts_by("abcd", "x", ["d", "b", "a"], [-2, -1]), [3])
        self.assertEqual(starts_by("abcd", "xx", ["bc", "ab", "cd"], [-1, 2]), [1])

    def test_no_steps_with_one_look(self):
        for steps in ([], ()):
            self.assertEqual(starts_by("abcab", "x", ["a"], steps), [0, 3])
            self.assertEqual(starts_by("abcab", "x", ("?",), steps), [0, 1, 2, 3, 4])
            self.assertEqual(starts_by("", "x", ["a"], steps), [])
        for row in strings("ab", 5):
            for look in ("ab", "a?", "??"):
                self.assertEqual(starts_by(row, "x.x", [look], []), find(row, "x.x", look))

    def test_steps_that_lead_out_of_the_row(self):
        # Neither beyond its end nor ahead of its beginning is there a place.
        self.assertEqual(starts_by("aaaa", "x", ["a", "a"], [1]), [0, 1, 2])
        self.assertEqual(starts_by("aaaa", "x", ["a", "a"], [-1]), [1, 2, 3])
        self.assertEqual(starts_by("aaaa", "x", ["?", "?", "?"], [2, -2]), [0, 1])
        self.assertEqual(starts_by("aaaa", "x", ["?", "?", "?"], [-2, 2]), [2, 3])
        self.assertEqual(starts_by("aaaa", "xx", ["??", "??"], [2]), [0])
        self.assertEqual(starts_by("aaaa", "x", ["?", "?", "?", "?"], [2, -3, 2]), [1])

    def test_steps_that_lead_out_of_the_row_from_everywhere(self):
        for steps in ([4], [-4], [12], [-12], [3, 1], [2, -4], [-1, 4]):
            looks = ["?"] * (len(steps) + 1)
            self.assertEqual(starts_by("aaaa", "x", looks, steps), [])
            self.assertIs(steps_tell("aaaa", "x", steps), True)
        self.assertEqual(starts_by("ab", "x.x", ["??"], []), [])
        self.assertEqual(starts_by("aba", "x.x", ["??", "??"], [1]), [])

    def test_lists_and_tuples(self):
        for looks in (["a", "?", "b"], ("a", "?", "b")):
            for steps in ([1, -2], (1, -2)):
                self.assertEqual(
                    starts_by("aabaab", "x", looks, steps), plain_starts("aabaab", "x", looks, steps))
                self.assertEqual(starts_by("baabaab", "x", looks, steps), [1, 4])

    def test_60_looks_and_59_steps(self):
        self.assertEqual(starts_by(LONG, "x", list(LONG), [1] * 59), [0])
        self.assertEqual(starts_by(LONG, "x", tuple(LONG[::-1]), (-1,) * 59), [59])
        self.assertEqual(starts_by(LONG, "x", ["a"] * 60, [4, -4] * 29 + [0]), list(range(0, 56, 4)))
        self.assertEqual(starts_by("a" * 60, "x", ["?"] * 60, [0] * 59), list(range(60)))
        self.assertEqual(starts_by("a" * 60, "x", ["?"] * 60, [12] * 59), [])
        self.assertEqual(starts_by(LONG, "x" * 12, ["?" * 12] * 5, [12] * 4), [0])

    def test_of_all_short_ways(self):
        for row in ("", "a", "abbab", "aabab", "aaaa", "abcabd"):
            for mask in ("x", "xx", "x.x"):
                looks = ["".join(signs) for signs in product("ab?", repeat=mask.count("x"))]
                for steps in product((-2, -1, 0, 1, 3), repeat=1):
                    for way in product(looks, repeat=2):
                        self.assertEqual(
                            starts_by(row, mask, way, steps), plain_starts(row, mask, way, steps),
                            (row, mask, way, steps))
                for steps in product((-2, 0, 1, 2), repeat=2):
                    for way in product(looks[::2], repeat=3):
                        self.assertEqual(
                            starts_by(row, mask, list(way), list(steps)),
                            plain_starts(row, mask, way, steps), (row, mask, way, steps))

    def test_steps_of_1_are_those_of_a_tracker(self):
        for row in ("abbab", "aabab", "aaaa", ""):
            for way in product("ab?", repeat=3):
                tracker = Tracker(row, "x")
                for look in way:
                    tracker.see(look)
                self.assertEqual(starts_by(row, "x", way, [1, 1]), tracker.starts())


class StepsTell(unittest.TestCase):
    def test_steps_that_tell_and_steps_that_do_not(self):
        self.assertIs(steps_tell("aabab", "x", [1]), False)
        self.assertIs(steps_tell("aabab", "x", [1, 1]), True)
        self.assertIs(steps_tell("aabab", "x", [1, 0]), False)
        self.assertIs(steps_tell("aabb", "x", [1]), True)
        self.assertIs(steps_tell("aabb", "x", [-1]), True)
        self.assertIs(steps_tell("aabb", "x", [0]), False)
        self.assertIs(steps_tell("abab", "x", [2]), True)
        self.assertIs(steps_tell("ababa", "x", [2]), False)

    def test_no_steps(self):
        for row in strings("ab", 5):
            for mask in masks(3):
                self.assertIs(steps_tell(row, mask, []), tells(row, mask))
                self.assertIs(steps_tell(row, mask, ()), tells(row, mask))

    def test_one_first_place_or_none(self):
        self.assertIs(steps_tell("aaaa", "x", [3]), True)
        self.assertIs(steps_tell("aaaa", "x", [2]), False)
        self.assertIs(steps_tell("aaaa", "x", [4]), True)
        self.assertIs(steps_tell("", "x", [0]), True)

    def test_59_steps(self):
        self.assertIs(steps_tell("a" * 60, "x", [0] * 59), False)
        self.assertIs(steps_tell("a" * 60, "x", [1] * 59), True)
        self.assertIs(steps_tell("a" * 60, "x", [1] * 58), False)
        self.assertIs(steps_tell(LONG, "x", (4, -4) * 29), False)
        self.assertIs(steps_tell(UNLIKE, "x", (1, 1) + (0,) * 57), True)

    def test_of_all_short_ways(self):
        for row in strings("ab", 5) + ["abcabd", "aabab" * 3]:
            for mask in ("x", "xx", "x.x", "x..x"):
                for many in (0, 1, 2):
                    for steps in product((-2, -1, 0, 1, 2, 3), repeat=many):
                        self.assertIs(
                            steps_tell(row, mask, list(steps)), plain_steps_tell(row, mask, steps),
                            (row, mask, steps))

    def test_the_greatest_steps(self):
        for row in (UNLIKE, LONG, "a" * 60):
            for steps in ([12], [-12], [12, -12], [12, 12, -12, 5], [-12, 7, 12]):
                for mask in ("x", "xx", "x..........x"):
                    self.assertIs(steps_tell(row, mask, steps), plain_steps_tell(row, mask, steps))

    def test_they_tell_just_if_all_that_is_seen_finds_one_place(self):
        for row in ("aabab", "abba", "aaab", "abcab"):
            for steps in ([1], [2], [-1], [1, -2], [0], []):
                told = plain_firsts(row, "x", steps)
                alone = all(starts_by(row, "x", list(looks), steps) == [first] for first, looks in told.items())
                self.assertIs(steps_tell(row, "x", steps), alone)


class Strided(unittest.TestCase):
    def test_step_1_is_steps_needed(self):
        for row in strings("ab", 7) + strings("abcd", 4) + [LONG, UNLIKE, "a" * 60]:
            for mask in masks(3):
                self.assertEqual(strided(row, mask, 1), steps_needed(row, mask), (row, mask))

    def test_of_all_small_rows(self):
        for row in strings("ab", 7) + strings("acd", 4):
            for mask in masks(3):
                for step in (1, 2, 3, 4, 12):
                    self.assertEqual(strided(row, mask, step), plain_strided(row, mask, step), (row, mask, step))

    def test_one_look_is_enough_just_if_the_mask_tells_the_row(self):
        for row in strings("ab", 5)[1:]:
            for step in (1, 2, 12):
                self.assertIs(strided(row, "x", step) == 1, plain_tells(row, "x"))

    def test_none_where_there_is_no_first_place(self):
        for step in range(1, 13):
            self.assertIsNone(strided("", "x", step))
            self.assertIsNone(strided("ab", "x.x", step))
            self.assertEqual(strided("a", "x", step), 1)
            self.assertEqual(strided("aba", "x.x", step), 1)

    def test_none_where_no_number_of_looks_tells_them(self):
        self.assertIsNone(strided("aaaa", "x", 2))
        self.assertEqual(strided("aaa", "x", 2), 2)
        self.assertEqual(strided("aaaaa", "x", 2), 3)
        self.assertIsNone(strided("aa", "x", 2))
        self.assertIsNone(strided("aa", "x", 12))
        self.assertEqual(strided("aabb", "x", 3), 2)

    def test_the_greatest_step(self):
        self.assertEqual(strided("a" * 13, "x", 12), 2)
        self.assertIsNone(strided("a" * 14, "x", 12))
        self.assertEqual(strided("a" * 49, "x", 12), 5)
        self.assertIsNone(strided("a" * 60, "x", 12))
        self.assertEqual(strided(UNLIKE, "x", 12), plain_strided(UNLIKE, "x", 12))
        self.assertEqual(strided(LONG, "x", 12), plain_strided(LONG, "x", 12))

    def test_rows_of_60_letters(self):
        self.assertEqual(strided("a" * 60, "x", 1), 60)
        self.assertEqual(strided("a" * 60, "x" * 12, 3), 17)
        for step in range(1, 13):
            for mask in ("x", "x.x", "xxx", "x" * 12):
                self.assertEqual(strided(UNLIKE, mask, step), plain_strided(UNLIKE, mask, step))


class WrongValues(unittest.TestCase):
    def test_no_row(self):
        for at, value in enumerate(NO_ROWS):
            with self.subTest(at=at):
                assert_raises(self, BadRow, starts_by, [value, "x", ["a"], []])
                assert_raises(self, BadRow, steps_tell, [value, "x", []])
                assert_raises(self, BadRow, strided, [value, "x", 1])

    def test_no_mask(self):
        for at, value in enumerate(NO_MASKS):
            with self.subTest(at=at):
                for row in ("abab", ""):
                    assert_raises(self, BadMask, starts_by, [row, value, ["a"], []])
                    assert_raises(self, BadMask, steps_tell, [row, value, []])
                    assert_raises(self, BadMask, strided, [row, value, 1])

    def test_no_list_of_looks(self):
        for at, value in enumerate(NO_LISTS_OF_LOOKS):
            with self.subTest(at=at):
                for row in ("abab", ""):
                    assert_field(self, BadViews, starts_by, [row, "x.x", value, [1]], "index", None)
                    assert_field(self, BadViews, starts_by, [row, "x.x", value, None], "index", None)

    def test_things_that_are_no_looks(self):
        for at, value in enumerate(NO_LOOKS):
            with self.subTest(at=at):
                assert_field(self, BadViews, starts_by, ["abab", "x.x", [value], []], "index", 0)
                assert_field(self, BadViews, starts_by, ["", "x.x", ("ab", value, "e"), [1, 2]], "index", 1)
                assert_field(self, BadViews, starts_by, ["abab", "x.x", ["ab", "??", value], [0]], "index", 2)

    def test_no_list_of_steps(self):
        for at, value in enumerate(NO_LISTS_OF_STEPS):
            with self.subTest(at=at):
                for row in ("abab", ""):
                    for looks in (["a"], ["a", "?"], ("b", "a", "?")):
                        assert_field(self, BadSteps, starts_by, [row, "x", looks, value], "index", None)
                    assert_field(self, BadSteps, steps_tell, [row, "x", value], "index", None)

    def test_one_thing_less_than_there_are_looks(self):
        for many in (1, 2, 3, 59, 60):
            for other in (0, 1, 2, 3, 57, 58, 59, 60, 61):
                looks = ["?"] * many
                for steps in ([0] * other, (0,) * other, [None] * other):
                    if other != many - 1:
                        assert_field(self, BadSteps, starts_by, ["abab", "x", looks, steps], "index", None)
                    elif steps[:1] != [None]:
                        self.assertEqual(starts_by("abab", "x", looks, steps), [0, 1, 2, 3])

    def test_59_steps_and_60(self):
        assert_field(self, BadSteps, steps_tell, ["abab", "x", [0] * 60], "index", None)
        assert_field(self, BadSteps, steps_tell, ["abab", "x", [None] * 60], "index", None)
        assert_field(self, BadSteps, steps_tell, ["abab", "x", [0] * 58 + [13]], "index", 58)
        assert_field(self, BadSteps, starts_by, ["abab", "x", ["a"] * 60, [0] * 60], "index", None)
        assert_field(self, BadSteps, starts_by, ["abab", "x", ["a"] * 60, [0] * 58 + [13]], "index", 58)
        assert_field(self, BadViews, starts_by, ["abab", "x", ["a"] * 61, [0] * 60], "index", None)

    def test_things_that_are_no_steps(self):
        for at, value in enumerate(NO_STEPS):
            with self.subTest(at=at):
                for steps, index in (([value], 0), ((12, value), 1), ([-12, 0, value, 1], 2)):
                    assert_field(self, BadSteps, steps_tell, ["abab", "x", steps], "index", index)
                    looks = ["?"] * (len(steps) + 1)
                    assert_field(self, BadSteps, starts_by, ["abab", "x", looks, steps], "index", index)

    def test_the_first_thing_that_is_no_step(self):
        for steps, index in (([13, None], 0), ([0, True, 13], 1), ((0, 1, "1", None), 2), ([0] * 58 + [-13], 58)):
            for row in ("abab", ""):
                assert_field(self, BadSteps, steps_tell, [row, "x", steps], "index", index)
                looks = ["?"] * (len(steps) + 1)
                assert_field(self, BadSteps, starts_by, [row, "x", looks, steps], "index", index)

    def test_steps_from_minus_12_to_12(self):
        for step in range(-12, 13):
            self.assertEqual(
                starts_by("a" * 13, "x", ["?", "?"], [step]), plain_starts("a" * 13, "x", "??", [step]))

    def test_step_beyond_1_to_12(self):
        for value in (0, -1, -12, 13, 60, HUGE, -HUGE):
            for row in ("abab", "", LONG):
                assert_bad_number(self, strided, [row, "x", value], value)

    def test_step_no_integer(self):
        for at, value in enumerate(NO_INTEGERS):
            with self.subTest(at=at):
                assert_bad_number(self, strided, ["abab", "x", value], value)
                assert_bad_number(self, strided, ["", "x", value], value)

    def test_several_wrong_values(self):
        for row in ("abe", None, "a" * 61):
            for mask in ("x.", None, "x" * 13):
                for steps in (None, [13], [0] * 60):
                    assert_order(
                        self, steps_tell, ["abab", "x", [1]], [(row, BadRow), (mask, BadMask), (steps, BadSteps)])
                    for looks in (None, [], ["ab", "e"], ["a"] * 61):
                        assert_order(
                            self, starts_by, ["abab", "x", ["a", "b"], [1]],
                            [(row, BadRow), (mask, BadMask), (looks, BadViews), (steps, BadSteps)])
                for step in (0, 13, None, True):
                    assert_order(
                        self, strided, ["abab", "x", 1], [(row, BadRow), (mask, BadMask), (step, BadNumber)])

    def test_which_index_of_two_is_told(self):
        assert_field(self, BadViews, starts_by, ["abab", "x", ["a", "e"], [13]], "index", 1)
        assert_field(self, BadViews, starts_by, ["abab", "x", ["a", "e", "f"], None], "index", 1)
        assert_field(self, BadViews, starts_by, ["abab", "x", None, [13]], "index", None)
        assert_field(self, BadSteps, starts_by, ["abab", "x", ["a", "b"], [0, 13]], "index", None)


class Arguments(unittest.TestCase):
    def test_lists_are_not_changed(self):
        looks, steps = ["a", "?", "b"], [2, -1]
        before = copy.deepcopy((looks, steps))
        starts_by("aabab", "x", looks, steps)
        steps_tell("aabab", "x", steps)
        self.assertEqual((looks, steps), before)

    def test_later_changes_of_the_lists_have_no_effect(self):
        looks, steps = ["a", "?", "b"], [2, -1]
        told = starts_by("aabab", "x", looks, steps)
        expected = plain_starts("aabab", "x", ["a", "?", "b"], [2, -1])
        looks.clear()
        steps[0] = 9
        self.assertEqual(told, expected)
        self.assertEqual(starts_by("aabab", "x", ["a", "?", "b"], [2, -1]), expected)

    def test_kinds(self):
        self.assertIs(type(starts_by("aabab", "x", ["a"], [])), list)
        self.assertIs(type(steps_tell("aabab", "x", [1])), bool)
        self.assertIs(type(strided("aabab", "x", 1)), int)


if __name__ == "__main__":
    unittest.main()
