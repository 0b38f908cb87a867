"""Point [14]: what holds over all that the modules tell."""

import unittest
from itertools import permutations, product

from holedwindows.finding import steps_needed
from holedwindows.longest import count_rows, farthest, longest, longest_rows, next_letters
from holedwindows.masks import seen
from holedwindows.rings import full_rings, longest_ring, ring_tells, ring_views
from holedwindows.views import alike, distance, groups, stands, tells, views
from tests.values import UNLIKE, many_pairs, masks, plain_ring_tells, plain_tells, small_masks, strings

LONG = "abcd" * 15
PAIRS = many_pairs()
TOLD = [(row, mask) for row, mask in PAIRS if plain_tells(row, mask)]
SMALL = [(mask, letters) for letters in (1, 2, 3, 4) for mask in small_masks(letters, 6)]
# Pairs of a longest row and a mask for it.
LONGEST = [
    (row, mask) for mask, letters in SMALL + [("x....xxx", 2), ("xx.x...x", 2), ("x" * 12, 1)]
    for row in longest_rows(mask, letters)[:40:3]]


def all_told(row, mask):
    """Tell whether the views are unlike, by all that tells it."""
    told = tells(row, mask)
    answers = [
        alike(row, mask) is None, groups(row, mask) == [], distance(row, mask) != 0,
        stands(row, mask, 0, 0), steps_needed(row, mask) in (None, 1)]
    if answers != [told] * 5:
        raise AssertionError((row, mask, told, answers))
    return told


def greatest_bound(mask, letters):
    """Return N + w - 1: no row in these letters with more of them is told."""
    return letters ** mask.count("x") + len(mask) - 1


class BeginningsAndEnds(unittest.TestCase):
    def test_of_rows_that_are_told(self):
        self.assertGreater(len(TOLD), 1000)
        for row, mask in TOLD + LONGEST:
            for at in range(len(row) + 1):
                self.assertIs(tells(row[:at], mask), True, (row, mask, at))
                self.assertIs(tells(row[at:], mask), True, (row, mask, at))

    def test_each_beginning_can_be_made_longer_to_the_row(self):
        for row, mask in LONGEST:
            for at in range(len(row)):
                self.assertIn(row[at], next_letters(row[:at], mask, 4))

    def test_a_row_that_is_told_can_be_made_no_shorter(self):
        for mask, letters in SMALL:
            for row in strings("abcd"[:letters], 4):
                if tells(row, mask):
                    self.assertGreaterEqual(farthest(row, mask, letters), len(row))

    def test_lengths_of_which_there_are_rows_begin_at_0(self):
        for mask, letters in SMALL:
            if letters ** len(mask) <= 64:
                most = longest(mask, letters)
                for length in range(most + 1):
                    self.assertGreater(count_rows(mask, letters, length), 0)


class RowsThatAreTooLong(unittest.TestCase):
    def test_no_row_beyond_is_told(self):
        for mask, letters in SMALL:
            most = greatest_bound(mask, letters)
            self.assertLessEqual(longest(mask, letters), most)
            for length in (most + 1, most + 2, 60):
                self.assertEqual(count_rows(mask, letters, length), 0)

    def test_each_row_just_beyond(self):
        for mask, letters in (("x", 1), ("x.x", 1), ("x", 2), ("xx", 2), ("x.x", 2), ("x...x", 2), ("xxx", 2),
                              ("x", 3), ("x", 4)):
            most = greatest_bound(mask, letters)
            for signs in product("abcd"[:letters], repeat=most + 1):
                self.assertIs(tells("".join(signs), mask), False)

    def test_rows_of_60_letters(self):
        for row, letters in (("a" * 60, 1), ("aab" * 20, 2), ("abbaabab" * 7 + "aabb", 2), ("abcacb" * 10, 3),
                             (LONG, 4), (UNLIKE, 4)):
            for mask in masks(7):
                if len(row) > greatest_bound(mask, letters):
                    self.assertIs(tells(row, mask), False, (row, mask))
                    self.assertIs(ring_tells(row, mask), False, (row, mask))
                    self.assertEqual(next_letters(row, mask, letters), "")

    def test_a_longest_row_of_so_many_letters_cannot_be_made_longer(self):
        for row, mask in LONGEST:
            letters = "abcd".index(max(row)) + 1
            if len(row) == greatest_bound(mask, letters):
                self.assertEqual(next_letters(row, mask, letters), "")

    def test_no_ring_that_is_told_has_more_letters_than_views(self):
        for mask, letters in SMALL:
            self.assertLessEqual(len(longest_ring(mask, letters)), letters ** mask.count("x"))


class TurnedAbout(unittest.TestCase):
    def test_rows_and_masks(self):
        for row, mask in PAIRS + LONGEST:
            self.assertIs(all_told(row[::-1], mask[::-1]), all_told(row, mask), (row, mask))

    def test_longest_rows(self):
        for mask, letters in SMALL:
            turned = sorted(row[::-1] for row in longest_rows(mask[::-1], letters))
            self.assertEqual(longest_rows(mask, letters), turned)

    def test_counts_of_rows(self):
        for mask, letters in SMALL[::3]:
            for length in (0, 3, 6, 9):
                self.assertEqual(
                    count_rows(mask, letters, length), count_rows(mask[::-1], letters, length))

    def test_rings(self):
        for row in strings("ab", 6)[1:] + strings("abc", 4)[1:]:
            for mask in masks(5):
                self.assertIs(ring_tells(row[::-1], mask[::-1]), ring_tells(row, mask))


class OtherLetters(unittest.TestCase):
    def test_rows(self):
        for row, mask in PAIRS[::7] + LONGEST[::3]:
            told = all_told(row, mask)
            for letters in permutations("abcd"):
                other = row.translate(str.maketrans("abcd", "".join(letters)))
                self.assertIs(tells(other, mask), told, (row, mask, other))

    def test_longest_rows(self):
        for mask, letters in SMALL:
            rows = longest_rows(mask, letters)
            signs = "abcd"[:letters]
            for others in permutations(signs):
                table = str.maketrans(signs, "".join(others))
                self.assertEqual(sorted(row.translate(table) for row in rows), rows)

    def test_next_letters(self):
        for row, mask in PAIRS[::11]:
            told = next_letters(row, mask, 4)
            table = str.maketrans("abcd", "cadb")
            self.assertEqual(
                next_letters(row.translate(table), mask, 4), "".join(sorted(told.translate(table))))


class MasksThatSeeMore(unittest.TestCase):
    def test_they_tell_all_rows_that_are_told(self):
        for row, mask in TOLD[::3] + LONGEST[::5]:
            if len(mask) <= 7:
                for other in wider_open(mask):
                    self.assertIs(tells(row, other), True, (row, mask, other))

    def test_of_the_greatest_width(self):
        row = (UNLIKE + UNLIKE)[7:62]
        for mask in ("x..........x", "x....x.....x", "x.x......x.x"):
            end = len(mask)
            while end < len(row) and tells(row[:end + 1], mask):
                end += 1
            for at in range(1, 11):
                self.assertIs(tells(row[:end], mask[:at] + "x" + mask[at + 1:]), True)

    def test_no_longest_row_is_longer_with_less_seen(self):
        for mask, letters in SMALL:
            for other in wider_open(mask):
                if (other, letters) in SMALL:
                    self.assertLessEqual(longest(mask, letters), longest(other, letters))

    def test_rings(self):
        for row in strings("ab", 6)[1:]:
            for mask in masks(5):
                if ring_tells(row, mask):
                    for other in wider_open(mask):
                        self.assertIs(ring_tells(row, other), True)


def wider_open(mask):
    """Return all masks of the same width that see the same places and perhaps more."""
    choices = ["x" if sign == "x" else ".x" for sign in mask]
    found = ["".join(signs) for signs in product(*choices)]
    assert all(set(seen(mask)) <= set(seen(other)) for other in found)
    return found


class Rings(unittest.TestCase):
    def test_a_ring_that_is_told_is_told_as_a_row(self):
        many = 0
        for row in strings("ab", 7)[1:] + strings("abcd", 4)[1::2]:
            for mask in masks(5) + ["x......x", "x" * 12, "x..........x"]:
                if ring_tells(row, mask):
                    self.assertIs(plain_ring_tells(row, mask), True)
                    self.assertIs(all_told(row, mask), True)
                    many += 1
        self.assertGreater(many, 1000)

    def test_the_views_of_the_row_are_the_first_ones_of_the_ring(self):
        for row, mask in PAIRS:
            if row:
                told = views(row, mask)
                self.assertEqual(ring_views(row, mask)[:len(told)], told)

    def test_longest_rings_and_full_rings(self):
        for mask, letters in SMALL:
            for ring in full_rings(mask, letters) + [longest_ring(mask, letters)]:
                for at in range(len(ring)):
                    self.assertIs(tells(ring[at:] + ring[:at], mask), True)
                self.assertLessEqual(len(ring), longest(mask, letters))

    def test_a_ring_laid_out_for_all_its_views_is_a_row_that_is_told(self):
        for mask, letters in SMALL:
            ring = longest_ring(mask, letters)
            row = (ring * 12)[:len(ring) + len(mask) - 1]
            self.assertIs(tells(row, mask), True)
            self.assertEqual(views(row, mask), ring_views(ring, mask))


if __name__ == "__main__":
    unittest.main()
