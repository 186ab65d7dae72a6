"""Point 2: what a whole number is, and whether one lies within bounds."""

import unittest

from flashkeep.looks import is_whole, is_within
from helper import FAR_NUMBERS, OTHER_KINDS


class LooksTest(unittest.TestCase):
    def test_ints_are_whole_numbers(self):
        for number in [0, 1, -1, 57, 2 ** 64, *FAR_NUMBERS]:
            self.assertIs(is_whole(number), True, number)

    def test_truths_and_other_kinds_are_none(self):
        for thing in OTHER_KINDS:
            self.assertIs(is_whole(thing), False, repr(thing)[:60])

    def test_bounds_are_let(self):
        told = [is_within(number, 3, 5) for number in range(1, 8)]
        self.assertEqual(told, [False, False, True, True, True, False, False])

    def test_bounds_that_are_the_same(self):
        self.assertEqual([is_within(number, 0, 0) for number in (-1, 0, 1)], [False, True, False])

    def test_far_numbers(self):
        for number in FAR_NUMBERS:
            self.assertIs(is_within(number, 0, 2 ** 47 - 1), False)
            self.assertIs(is_within(number, -(10 ** 30), 10 ** 30), True)

    def test_other_kinds_lie_within_no_bounds(self):
        for thing in OTHER_KINDS:
            self.assertIs(is_within(thing, 0, 57), False, repr(thing)[:60])


if __name__ == "__main__":
    unittest.main()
