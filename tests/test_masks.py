"""Point [2]: masks and rows."""

import unittest

from holedwindows.errors import BadMask, BadNumber
from holedwindows.masks import seen, together
from tests.checking import assert_bad_number, assert_order, assert_raises
from tests.values import HUGE, NO_INTEGERS, NO_MASKS, SIGNS, masks


class Examples(unittest.TestCase):
    def test_of_the_interface(self):
        self.assertEqual(
            [seen("x.xx"), together("x.x", "xx", 1), together("xx", "xx", 3), together("x", "x", 0)],
            [[0, 2, 3], "xxx", "xx.xx", "x"])


class Seen(unittest.TestCase):
    def test_of_ordinary_masks(self):
        self.assertEqual(seen("x"), [0])
        self.assertEqual(seen("xx"), [0, 1])
        self.assertEqual(seen("x.x"), [0, 2])
        self.assertEqual(seen("xx..x"), [0, 1, 4])

    def test_of_masks_with_twelve_signs(self):
        self.assertEqual(seen("x" * 12), list(range(12)))
        self.assertEqual(seen("x..........x"), [0, 11])

    def test_of_all_masks_with_at_most_seven_signs(self):
        for mask in masks(7):
            places = seen(mask)
            self.assertIs(type(places), list)
            self.assertEqual(
                "".join("x" if at in places else "." for at in range(len(mask))), mask)
            self.assertEqual(places, sorted(set(places)))

    def test_no_mask(self):
        for at, value in enumerate(NO_MASKS):
            with self.subTest(at=at):
                assert_raises(self, BadMask, seen, [value])

    def test_other_signs(self):
        for sign in SIGNS:
            if sign not in "x.":
                for mask in (sign, "x" + sign + "x", sign + "x", "x" + sign):
                    with self.subTest(mask=mask):
                        assert_raises(self, BadMask, seen, [mask])


class Together(unittest.TestCase):
    def test_of_ordinary_masks(self):
        self.assertEqual(together("x", "x", 1), "xx")
        self.assertEqual(together("x", "x", 5), "x....x")
        self.assertEqual(together("xx.x", "x", 2), "xxxx")
        self.assertEqual(together("x....x", "xx", 1), "xxx..x")
        self.assertEqual(together("x.x", "x.x", 1), "xxxx")
        self.assertEqual(together("x", "x.xx", 0), "x.xx")

    def test_the_second_mask_is_laid_on_further_on_not_the_first(self):
        self.assertEqual(together("xxx", "x", 4), "xxx.x")
        self.assertEqual(together("x", "xxx", 4), "x...xxx")

    def test_it_is_open_where_one_is_or_other_is(self):
        for one in masks(4):
            for other in masks(4):
                for far in range(13 - len(other)):
                    told = together(one, other, far)
                    for at in range(12):
                        is_open = one[at:at + 1] == "x" or at >= far and other[at - far:at - far + 1] == "x"
                        self.assertEqual(told[at:at + 1] == "x", is_open, (one, other, far))

    def test_it_is_a_mask(self):
        for one in masks(4):
            for other in masks(4):
                for far in range(13 - len(other)):
                    self.assertEqual(seen(together(one, other, far))[0], 0)

    def test_far_from_0_to_12_less_the_width_of_other(self):
        self.assertEqual(together("x", "x", 11), "x..........x")
        self.assertEqual(together("x", "x.x", 9), "x........x.x")
        self.assertEqual(together("x" * 12, "x.x", 9), "x" * 12)
        self.assertEqual(together("x", "x" * 12, 0), "x" * 12)
        self.assertEqual(together("x..........x", "x" * 12, 0), "x" * 12)

    def test_far_is_not_bound_by_the_width_of_one(self):
        self.assertEqual(together("x" * 12, "x", 11), "x" * 12)
        self.assertEqual(together("x" * 12, "x.x", 0), "x" * 12)

    def test_far_beyond_that(self):
        for one, other, far in (("x", "x", 12), ("x", "xx", 11), ("x", "x.x", 10), ("x", "x" * 12, 1),
                                ("x" * 12, "x", 12), ("x", "x", -1), ("x.x", "xx", -12), ("x", "x", 13),
                                ("x", "x", HUGE), ("x", "x", -HUGE)):
            assert_bad_number(self, together, [one, other, far], far)

    def test_far_no_integer(self):
        for at, value in enumerate(NO_INTEGERS):
            with self.subTest(at=at):
                assert_bad_number(self, together, ["x.x", "xx", value], value)

    def test_no_masks(self):
        for at, value in enumerate(NO_MASKS):
            with self.subTest(at=at):
                assert_raises(self, BadMask, together, [value, "x.x", 0])
                assert_raises(self, BadMask, together, ["x.x", value, 0])

    def test_several_wrong_values(self):
        assert_order(self, together, ["x.x", "xx", 1],
                     [("x.", BadMask), ("", BadMask), (13, BadNumber)])
        assert_raises(self, BadMask, together, [None, "xx", None])
        assert_raises(self, BadMask, together, ["xx", "x" * 13, -1])
        assert_raises(self, BadMask, together, ["xx", 5, True])


if __name__ == "__main__":
    unittest.main()
