"""Point [14]: what holds over changes, trackers, stands, patterns, steps and rows without end."""

import unittest
from itertools import permutations, product

from holedwindows.apart import apart_rows, longest_apart
from holedwindows.both import both_alike, both_find, both_views
from holedwindows.choosing import least_masks
from holedwindows.endless import first_again, told_to
from holedwindows.longest import longest
from holedwindows.mending import mend, weak_letters
from holedwindows.moves import starts_by, steps_tell, strided
from holedwindows.rings import ring_tells
from holedwindows.texts import read, write
from holedwindows.trackers import Tracker
from holedwindows.unread import fill_counts, first_filling, sure_letters
from holedwindows.views import distance, tells, views
from tests.values import UNLIKE, masks, plain_tells, small_masks, strings

# Pairs of rows that are short enough to be mended, and masks.
SHORT = [
    (row, mask) for row in strings("ab", 6) + strings("abc", 4)[::2] + ["abababab", "aabbccdd", "abcdabcd"]
    for mask in masks(4)]
LONG_ROWS = ["abcd" * 15, UNLIKE, UNLIKE[3:40], "aabab" * 12]
PAIRS = SHORT + [(row, mask) for row in LONG_ROWS for mask in masks(4) + ["x" * 12]]
SMALL = [(mask, letters) for letters in (1, 2, 3, 4) for mask in small_masks(letters, 6)]
PATTERNS = strings("ab?", 4) + ["a??b?", "?aabb?", "??abba", "ab?ab?ab", "?abcd?"]
STEPS = [[], [1], [2], [-1], [0, 1], [1, 1], [3, -2], [-2, -1, 4]]
EXCHANGES = [str.maketrans("abcd", "".join(letters)) for letters in list(permutations("abcd"))[1::4]]


def greatest_bound(mask, letters):
    """Return N + w - 1: no row in these letters with more of them is told."""
    return letters ** mask.count("x") + len(mask) - 1


def letters_of(row):
    """Return of how many first letters a row is made."""
    return "abcd".index(max(row, default="a")) + 1


def wider_open(mask):
    """Return all masks of the same width that see the same places and perhaps more."""
    return ["".join(signs) for signs in product(*["x" if sign == "x" else ".x" for sign in mask])]


class BeginningsAndEnds(unittest.TestCase):
    def test_there_is_nothing_to_mend(self):
        for row, mask in SHORT:
            if tells(row, mask):
                for at in range(len(row) + 1):
                    for part in (row[:at], row[at:]):
                        self.assertEqual(mend(part, mask, 4), (0, part))

    def test_changes_of_a_row_are_changes_of_its_beginning_and_end(self):
        for row, mask in SHORT[::2]:
            for place, letter in weak_letters(row, mask, 4):
                if place < len(row) - 1:
                    self.assertIn((place, letter), weak_letters(row[:-1], mask, 4))
                if place > 0:
                    self.assertIn((place - 1, letter), weak_letters(row[1:], mask, 4))

    def test_rows_that_are_mended(self):
        for row, mask in SHORT[::3]:
            told = mend(row, mask, 4)
            if told is not None:
                for at in range(len(row)):
                    self.assertLessEqual(mend(row[:at], mask, 4)[0], told[0])
                    self.assertLessEqual(mend(row[at:], mask, 4)[0], told[0])

    def test_rows_that_are_apart(self):
        for mask, letters in SMALL:
            for far in (2, 3):
                for row in apart_rows(mask, letters, far)[::9]:
                    for at in range(len(row)):
                        for part in (row[:at], row[at:]):
                            least = distance(part, mask)
                            self.assertTrue(least is None or least >= far)

    def test_patterns(self):
        for pattern in PATTERNS:
            for mask in masks(3):
                if first_filling(pattern, mask, 2) is not None:
                    for at in range(len(pattern) + 1):
                        self.assertIsNotNone(first_filling(pattern[:at], mask, 2))
                        self.assertIsNotNone(first_filling(pattern[at:], mask, 2))

    def test_beginnings_of_rows_without_end(self):
        for row, mask in PAIRS:
            if row:
                text = row * (1 + 11 // len(row))
                most = told_to(row, mask)
                for length in range(min(most + 1, 61, len(text) + 1)):
                    self.assertIs(tells(text[:length], mask), True)
                if most < min(60, len(text)):
                    self.assertIs(tells(text[:most + 1], mask), False)

    def test_trackers_know_their_place_by_one_look(self):
        for row, mask in PAIRS:
            if tells(row, mask):
                for at in (0, len(row) // 2):
                    part = row[at:]
                    for place, look in enumerate(views(part, mask)):
                        tracker = Tracker(part, mask)
                        self.assertEqual([tracker.see(look), tracker.places()], [1, [place]])


class RowsThatAreTooLong(unittest.TestCase):
    def test_they_cannot_be_mended(self):
        for mask, letters in SMALL:
            for length in range(greatest_bound(mask, letters) + 1, 9):
                for row in ("a" * length, ("abcd"[:letters] * 8)[:length]):
                    self.assertIsNone(mend(row, mask, letters))
                    self.assertEqual(weak_letters(row, mask, letters), [])

    def test_rows_of_60_letters_have_no_changes_that_mend_them(self):
        for row in LONG_ROWS:
            for mask in masks(4):
                letters = letters_of(row)
                if len(row) > greatest_bound(mask, letters):
                    self.assertEqual(weak_letters(row, mask, letters), [])

    def test_rows_that_are_apart_are_no_longer(self):
        for mask, letters in SMALL:
            for far in (1, 2, 3):
                self.assertLessEqual(longest_apart(mask, letters, far), greatest_bound(mask, letters))

    def test_patterns(self):
        for mask, letters in SMALL:
            for length in range(greatest_bound(mask, letters) + 1, 61, 5):
                for pattern in ("?" * 4 + "a" * 56, ("a" * 14 + "?") * 4):
                    self.assertEqual(fill_counts(pattern[:length], mask, letters)[0], 0)

    def test_beginnings_of_rows_without_end(self):
        for row, mask in PAIRS:
            if row:
                self.assertLessEqual(told_to(row, mask), greatest_bound(mask, letters_of(row)))


class TurnedAbout(unittest.TestCase):
    def test_changes(self):
        for row, mask in SHORT[::2]:
            last = len(row) - 1
            told, other = mend(row, mask, 4), mend(row[::-1], mask[::-1], 4)
            self.assertEqual(None if told is None else told[0], None if other is None else other[0])
            turned = sorted((last - place, letter) for place, letter in weak_letters(row, mask, 4))
            self.assertEqual(weak_letters(row[::-1], mask[::-1], 4), turned)

    def test_stands_look_the_other_way(self):
        ways = {"on": "back", "back": "on"}
        for row, mask in PAIRS:
            last = len(row) - 1
            turned = sorted(
                ((last - place, ways[way]), view) for (place, way), view in both_views(row, mask))
            # The row alone is turned: who looks back turns the mask himself.
            self.assertEqual(both_views(row[::-1], mask), turned)
            self.assertIs(both_alike(row[::-1], mask) is None, both_alike(row, mask) is None)
            look = "a" + "?" * (mask.count("x") - 1)
            found = sorted((last - place, ways[way]) for place, way in both_find(row, mask, look))
            self.assertEqual(both_find(row[::-1], mask, look), found)
            self.assertIs(both_alike(row, mask[::-1]) is None, both_alike(row, mask) is None)

    def test_rows_that_are_apart(self):
        for mask, letters in SMALL:
            for far in (1, 2, 3):
                turned = sorted(row[::-1] for row in apart_rows(mask[::-1], letters, far))
                self.assertEqual(apart_rows(mask, letters, far), turned)

    def test_patterns(self):
        for pattern in PATTERNS:
            for mask in masks(4):
                other = pattern[::-1], mask[::-1], 2
                self.assertEqual(fill_counts(*other), fill_counts(pattern, mask, 2))
                sure = sure_letters(pattern, mask, 2)
                self.assertEqual(sure_letters(*other), None if sure is None else sure[::-1])

    def test_steps(self):
        for row, mask in PAIRS[::3]:
            for steps in STEPS:
                back = [-step for step in steps]
                self.assertIs(steps_tell(row[::-1], mask[::-1], back), steps_tell(row, mask, steps))
            for step in (1, 2, 3):
                self.assertEqual(strided(row[::-1], mask[::-1], step), strided(row, mask, step))

    def test_rows_without_end(self):
        for row, mask in PAIRS:
            if row:
                many = (0, len(row))
                self.assertIs(first_again(row[::-1], mask[::-1]) == many, first_again(row, mask) == many)


class OtherLetters(unittest.TestCase):
    def test_changes(self):
        for row, mask in SHORT[::7]:
            told = mend(row, mask, 4)
            weak = weak_letters(row, mask, 4)
            for table in EXCHANGES:
                other = mend(row.translate(table), mask, 4)
                self.assertEqual(None if told is None else told[0], None if other is None else other[0])
                self.assertEqual(
                    weak_letters(row.translate(table), mask, 4),
                    sorted((place, letter.translate(table)) for place, letter in weak))

    def test_stands(self):
        for row, mask in PAIRS[::3]:
            for table in EXCHANGES:
                other = row.translate(table)
                self.assertEqual(both_alike(other, mask), both_alike(row, mask))
                self.assertEqual(
                    both_views(other, mask), [(stand, view.translate(table)) for stand, view in both_views(row, mask)])

    def test_trackers_and_looks_by_steps(self):
        for row, mask in PAIRS[::5]:
            look = ("ab?" * 4)[:mask.count("x")]
            for table in EXCHANGES:
                one, other = Tracker(row, mask), Tracker(row.translate(table), mask)
                for _ in range(3):
                    self.assertEqual(one.see(look), other.see(look.translate(table)))
                self.assertEqual(one.starts(), other.starts())
                for steps in ([1], [-2]):
                    self.assertEqual(
                        starts_by(row, mask, [look, look], steps),
                        starts_by(row.translate(table), mask, [look.translate(table)] * 2, steps))

    def test_steps_and_rows_without_end(self):
        for row, mask in PAIRS[::5]:
            for table in EXCHANGES:
                other = row.translate(table)
                for steps in STEPS[::2]:
                    self.assertIs(steps_tell(other, mask, steps), steps_tell(row, mask, steps))
                self.assertEqual(strided(other, mask, 2), strided(row, mask, 2))
                if row:
                    self.assertEqual(first_again(other, mask), first_again(row, mask))
                    self.assertEqual(told_to(other, mask), told_to(row, mask))

    def test_patterns(self):
        for pattern in PATTERNS[::3]:
            for mask in masks(3):
                sure = sure_letters(pattern, mask, 4)
                for table in EXCHANGES:
                    other = pattern.translate(table)
                    self.assertEqual(fill_counts(other, mask, 4), fill_counts(pattern, mask, 4))
                    self.assertEqual(
                        sure_letters(other, mask, 4), None if sure is None else sure.translate(table))

    def test_rows_that_are_apart(self):
        for mask, letters in SMALL:
            signs = "abcd"[:letters]
            for far in (2, 3):
                rows = apart_rows(mask, letters, far)
                for other in permutations(signs):
                    table = str.maketrans(signs, "".join(other))
                    self.assertEqual(sorted(row.translate(table) for row in rows), rows)

    def test_texts(self):
        for row, mask in PAIRS[::9]:
            for table in EXCHANGES:
                self.assertEqual(read(write(mask, row.translate(table))), (mask, row.translate(table)))


class MasksThatSeeMore(unittest.TestCase):
    def test_changes(self):
        for row, mask in SHORT[::3]:
            told = mend(row, mask, 4)
            weak = weak_letters(row, mask, 4)
            for other in wider_open(mask):
                if told is not None:
                    self.assertLessEqual(mend(row, other, 4)[0], told[0])
                more = weak_letters(row, other, 4)
                self.assertTrue(all(pair in more for pair in weak))

    def test_stands_that_are_alike(self):
        for row, mask in PAIRS:
            if both_alike(row, mask) is None:
                for other in wider_open(mask):
                    self.assertIsNone(both_alike(row, other))

    def test_rows_that_are_apart(self):
        for mask, letters in SMALL:
            for other in wider_open(mask):
                if (other, letters) in SMALL:
                    for far in (1, 2, 3):
                        self.assertLessEqual(
                            longest_apart(mask, letters, far), longest_apart(other, letters, far))

    def test_patterns(self):
        for pattern in PATTERNS:
            for mask in masks(4):
                for other in wider_open(mask):
                    self.assertLessEqual(fill_counts(pattern, mask, 2)[0], fill_counts(pattern, other, 2)[0])

    def test_steps(self):
        for row, mask in PAIRS[::4]:
            if len(mask) < 12:
                for other in wider_open(mask):
                    for steps in STEPS:
                        if steps_tell(row, mask, steps):
                            self.assertIs(steps_tell(row, other, steps), True)

    def test_rows_without_end(self):
        for row, mask in PAIRS:
            if row and len(mask) < 12:
                for other in wider_open(mask):
                    self.assertLessEqual(told_to(row, mask), told_to(row, other))

    def test_the_masks_that_see_least_can_see_more(self):
        for row in strings("ab", 6)[1::3]:
            for mask in least_masks(row, 5):
                for other in wider_open(mask):
                    self.assertIs(plain_tells(row, other), True)


class Rings(unittest.TestCase):
    def test_a_ring_that_is_told_needs_no_changes(self):
        for row, mask in SHORT:
            if row and ring_tells(row, mask):
                self.assertEqual(mend(row, mask, 4), (0, row))
                self.assertEqual(first_filling(row, mask, 1), row)

    def test_its_first_place_comes_again_first(self):
        for row, mask in PAIRS:
            if row and first_again(row, mask) == (0, len(row)):
                self.assertIs(tells(row, mask), True)
                self.assertGreaterEqual(told_to(row, mask), len(row))
                self.assertIs(steps_tell(row, mask, [1]), True)

    def test_it_is_no_longer_than_the_longest_rows(self):
        for mask, letters in SMALL:
            for row in strings("abcd"[:letters], 4)[1:]:
                if first_again(row, mask) == (0, len(row)):
                    self.assertLessEqual(told_to(row, mask), longest(mask, letters))


if __name__ == "__main__":
    unittest.main()
