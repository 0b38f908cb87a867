"""Point [13]: texts."""

import unittest

from holedwindows.errors import BadMask, BadRow, InvalidText
from holedwindows.texts import read, write
from tests.checking import assert_field, assert_order, assert_raises
from tests.values import NO_MASKS, NO_ROWS, SIGNS, UNLIKE, masks, strings

LONG = "abcd" * 15
# Signs that part words elsewhere, but are no spaces.
NO_SPACES = list("\t\n\r\v\f\x00\x1c\x1f") + ["\u00a0", "\u2003", "\u3000", "\r\n", ",", "_"]


def of_one_word(values):
    """Return those of the values that are strings of one word."""
    return [value for value in values if isinstance(value, str) and value and " " not in value]


class Examples(unittest.TestCase):
    def test_of_the_interface(self):
        self.assertEqual(
            [write("x.x", "abba"), write("x", ""), read("x.x  abba"), read("x")],
            ["x.x abba", "x", ("x.x", "abba"), ("x", "")])

    def test_the_error_of_the_interface(self):
        assert_field(self, InvalidText, read, ["x. ab"], "word", 1)


class ThereAndBack(unittest.TestCase):
    def test_all_small_ones(self):
        for mask in masks(5):
            for row in strings("abcd", 3):
                text = write(mask, row)
                self.assertEqual(text, f"{mask} {row}" if row else mask)
                self.assertEqual(read(text), (mask, row))

    def test_the_greatest_ones(self):
        for mask in ("x", "x" * 12, "x..........x"):
            for row in ("", LONG, UNLIKE, "d" * 60):
                self.assertEqual(read(write(mask, row)), (mask, row))
        self.assertEqual(write("x" * 12, LONG), "x" * 12 + " " + LONG)

    def test_kinds(self):
        told = read("x.x ab")
        self.assertEqual([type(told), type(told[0]), type(told[1])], [tuple, str, str])


class Spaces(unittest.TestCase):
    def test_further_spaces_mean_nothing(self):
        for ahead in ("", " ", "   "):
            for behind in ("", " ", "  "):
                self.assertEqual(read(ahead + "x.x" + behind), ("x.x", ""))
                for between in (" ", "  ", " " * 9):
                    text = ahead + "x.x" + between + "abba" + behind
                    self.assertEqual(read(text), ("x.x", "abba"), repr(text))
        self.assertEqual(read(" " * 5000 + "x" + " " * 5000 + "d" + " " * 5000), ("x", "d"))

    def test_other_signs_are_no_spaces(self):
        for sign in NO_SPACES:
            for text in (sign, sign + "x", "x" + sign, "x" + sign + "ab", " " + sign + " x ab"):
                assert_field(self, InvalidText, read, [text], "word", 1)
            for text in ("x ab" + sign, "x " + sign + "ab", "x a" + sign + "b", "x " + sign, "x " + sign + " ab"):
                assert_field(self, InvalidText, read, [text], "word", 2)
            assert_field(self, InvalidText, read, ["x ab " + sign], "word", 3)


class InvalidTexts(unittest.TestCase):
    def test_no_word(self):
        for text in ("", " ", "     ", " " * 1000):
            assert_field(self, InvalidText, read, [text], "word", 1)

    def test_the_first_word_is_no_mask(self):
        for word in of_one_word(NO_MASKS):
            for text in (word, " " + word + " ", word + " ab", "  " + word + "  ab  "):
                assert_field(self, InvalidText, read, [text], "word", 1)

    def test_the_second_word_is_no_row(self):
        for word in of_one_word(NO_ROWS) + ["x.x", "x"]:
            for text in ("x.x " + word, " x  " + word + " "):
                assert_field(self, InvalidText, read, [text], "word", 2)

    def test_a_third_word(self):
        for word in ("ab", "x", "e", "?", "a" * 61, "a b", "a b c d e f"):
            assert_field(self, InvalidText, read, ["x.x ab " + word], "word", 3)
            assert_field(self, InvalidText, read, ["  x  d   " + word + " "], "word", 3)

    def test_the_first_wrong_word_is_told(self):
        assert_field(self, InvalidText, read, ["x. e"], "word", 1)
        assert_field(self, InvalidText, read, ["x. ab c"], "word", 1)
        assert_field(self, InvalidText, read, ["x. e f g"], "word", 1)
        assert_field(self, InvalidText, read, ["x e f"], "word", 2)
        assert_field(self, InvalidText, read, ["x e ab cd"], "word", 2)
        assert_field(self, InvalidText, read, ["ab x"], "word", 1)

    def test_other_signs(self):
        for sign in SIGNS:
            if sign not in "x. ":
                assert_field(self, InvalidText, read, ["x" + sign + "x ab"], "word", 1)
            if sign not in "abcd ":
                assert_field(self, InvalidText, read, ["x.x a" + sign + "b"], "word", 2)


class WrongValues(unittest.TestCase):
    def test_no_mask(self):
        for at, value in enumerate(NO_MASKS):
            with self.subTest(at=at):
                assert_raises(self, BadMask, write, [value, "ab"])
                assert_raises(self, BadMask, write, [value, ""])

    def test_no_row(self):
        for at, value in enumerate(NO_ROWS):
            with self.subTest(at=at):
                assert_raises(self, BadRow, write, ["x.x", value])

    def test_the_mask_is_looked_at_first(self):
        for mask in ("x.", None, "x" * 13, "ab"):
            for row in ("abe", None, "a" * 61, "x"):
                assert_order(self, write, ["x", "ab"], [(mask, BadMask), (row, BadRow)])


if __name__ == "__main__":
    unittest.main()
