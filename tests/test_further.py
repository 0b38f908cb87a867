"""Point [20]: what holds further, over many rows and masks."""

import unittest
from itertools import product

from holedwindows.apart import apart_rows, longest_apart
from holedwindows.both import both_alike, both_views
from holedwindows.endless import first_again, told_to
from holedwindows.finding import steps_needed
from holedwindows.longest import longest, longest_rows
from holedwindows.moves import steps_tell, strided
from holedwindows.rings import ring_tells
from holedwindows.views import tells
from tests.values import many_pairs, masks, plain_ring_tells, plain_tells, small_masks, strings

PAIRS = many_pairs()
SMALL = [(mask, letters) for letters in (1, 2, 3, 4) for mask in small_masks(letters, 6)]
GREATEST = [
    ("x" * 12, 1), ("x..........x", 1), ("xxxx", 2), ("x....xxx", 2), ("xx.x...x", 2), ("xx....xx", 2),
    ("x......x", 2), ("x...x", 3), ("x", 4)]
# Steps that are put behind other ones.
BEHIND = [[], [0], [1], [-1], [2, -3], [12], [-12], [5, 5, 5], [0] * 30]


class EitherWay(unittest.TestCase):
    def test_no_stands_that_are_alike_means_that_the_row_is_told(self):
        many = 0
        for row, mask in PAIRS:
            if both_alike(row, mask) is None:
                self.assertIs(tells(row, mask), True, (row, mask))
                self.assertIs(plain_tells(row, mask), True, (row, mask))
                many += 1
        self.assertGreater(many, 500)

    def test_a_row_that_is_not_told_has_stands_that_are_alike(self):
        for row, mask in PAIRS:
            if not plain_tells(row, mask):
                one, other = both_alike(row, mask)
                told = dict(both_views(row, mask))
                self.assertEqual(told[one], told[other])
                self.assertLess(one, other)

    def test_a_row_that_is_told_may_have_some(self):
        self.assertIs(tells("aba", "xx"), True)
        self.assertEqual(both_alike("aba", "xx"), ((0, "on"), (2, "back")))


class ManyLetters(unittest.TestCase):
    def test_longest_apart_by_1_is_longest(self):
        for mask, letters in SMALL + GREATEST:
            self.assertEqual(longest_apart(mask, letters, 1), longest(mask, letters))
            self.assertEqual(apart_rows(mask, letters, 1), longest_rows(mask, letters))

    def test_by_more_it_is_never_greater(self):
        for mask, letters in SMALL + GREATEST:
            most = longest(mask, letters)
            for far in range(2, 13):
                told = longest_apart(mask, letters, far)
                self.assertLessEqual(told, most)
                most = told

    def test_rows_that_are_apart_by_more_are_told(self):
        for mask, letters in SMALL:
            for far in (1, 2, 3):
                for row in apart_rows(mask, letters, far)[::7]:
                    self.assertIs(tells(row, mask), True)


class Steps(unittest.TestCase):
    def test_strided_by_1_is_steps_needed(self):
        for row, mask in PAIRS:
            self.assertEqual(strided(row, mask, 1), steps_needed(row, mask), (row, mask))

    def test_steps_that_tell_still_do_so_with_more_steps_behind_them(self):
        many = 0
        for row in strings("ab", 6)[::2] + strings("abc", 4)[::5] + ["aabab" * 3, "a" * 60, "abcd" * 15]:
            for mask in masks(3):
                for ahead in range(3):
                    for steps in product((-2, 0, 1, 3), repeat=ahead):
                        if steps_tell(row, mask, steps):
                            many += 1
                            for behind in BEHIND:
                                self.assertIs(
                                    steps_tell(row, mask, list(steps) + behind), True, (row, mask, steps, behind))
        self.assertGreater(many, 1000)

    def test_to_the_greatest_number_of_steps(self):
        for steps in ([1] * 59, [0] * 59, [-1, 1] * 29 + [2]):
            told = [steps_tell("aabab", "x", steps[:many]) for many in range(60)]
            self.assertEqual(told, sorted(told))

    def test_what_strided_tells_are_steps_that_tell(self):
        for row, mask in PAIRS[::5]:
            for step in (1, 2, 5):
                many = strided(row, mask, step)
                if many is not None:
                    self.assertIs(steps_tell(row, mask, [step] * (many - 1)), True)
                    for fewer in range(many - 1):
                        self.assertIs(steps_tell(row, mask, [step] * fewer), False)


class RingsWithoutEnd(unittest.TestCase):
    def test_ring_tells_just_if_the_first_place_comes_again_first(self):
        answers = []
        for row, mask in PAIRS:
            if row:
                told = first_again(row, mask) == (0, len(row))
                answers.append(told)
                self.assertIs(ring_tells(row, mask), told, (row, mask))
                self.assertIs(plain_ring_tells(row, mask), told, (row, mask))
        self.assertGreater(answers.count(True), 500)
        self.assertGreater(answers.count(False), 500)

    def test_a_ring_that_is_told_is_told_as_far_as_it_goes(self):
        for row, mask in PAIRS:
            if row:
                most = len(row) + len(mask) - 1
                self.assertIs(told_to(row, mask) == most, ring_tells(row, mask), (row, mask))
                self.assertLessEqual(told_to(row, mask), most)


if __name__ == "__main__":
    unittest.main()
