"""Point 30: what a weather is."""

import unittest

from flashkeep.flash import is_weather
from helper import FAR_NUMBERS, OTHER_KINDS, nested

CUT = ("cut",)
NO_STEPS = [-1, -9999, 10000, 10001, True, False, None, "0", "", [], [0], (), (0,), {}, 0.0, *FAR_NUMBERS]
NO_BITS = [-1, 47, 48, True, False, None, "0", "", [], [0], (), (0,), {}, 0.0, *FAR_NUMBERS]
NO_FAULTS = [
    "cut", "bad", "bit", (), ("Cut",), ("",), ("wipe",), ("cut", 0), ("cut", None), ("bad", 0), ("bad", 0, 0), ("bit",),
    ("bit", 0, 0), ("bits", 0), ("cut", "bad"), (None,), (0,), (True,), (("cut",),), ("cut",) * 2, (0, "bit"), ("0", 0),
    None, 0, 1, True, {}, {"cut": 1}, ["cut"], ["bad"], ["bit", 0], (["cut"],), (["bit"], 0), ({}, 0), ({},),
]


def cuts_at(steps):
    return tuple((step, CUT) for step in steps)


class WeatherTest(unittest.TestCase):
    def assert_told(self, due, thing):
        self.assertIs(is_weather(thing), due, repr(thing)[:80])

    def test_none_one_and_forty_faults(self):
        for many in (0, 1, 2, 39, 40):
            self.assert_told(True, cuts_at(range(many)))
            self.assert_told(True, cuts_at(range(10000 - many, 10000)))

    def test_forty_one_faults(self):
        for many in (41, 42, 100, 2000):
            self.assert_told(False, cuts_at(range(many)))

    def test_steps_at_both_ends(self):
        for step in (0, 1, 9998, 9999):
            self.assert_told(True, ((step, CUT),))

    def test_steps_that_are_none(self):
        for step in NO_STEPS:
            self.assert_told(False, ((step, CUT),))
            self.assert_told(False, ((step, CUT), (5000, CUT)))
            self.assert_told(False, ((0, ("bad",)), (step, CUT)))

    def test_steps_rise(self):
        self.assert_told(True, cuts_at([0, 1, 3, 9999]))
        for steps in ([0, 0], [1, 0], [5, 5], [9999, 0], [0, 1, 1], [0, 2, 1], [3, 1, 2], [0, 9999, 9999]):
            self.assert_told(False, cuts_at(steps))

    def test_steps_alike_with_rising_faults(self):
        self.assert_told(False, ((4, ("bad",)), (4, ("cut",))))
        self.assert_told(False, ((4, ("bit", 1)), (4, ("bit", 2))))

    def test_each_fault(self):
        self.assert_told(True, ((0, ("bad",)), (1, ("bit", 0)), (2, ("bit", 46)), (3, CUT)))
        for bit in range(47):
            self.assert_told(True, ((7, ("bit", bit)),))

    def test_bits_that_are_none(self):
        for bit in NO_BITS:
            self.assert_told(False, ((0, ("bit", bit)),))
            self.assert_told(False, ((0, CUT), (1, ("bit", bit))))

    def test_faults_that_are_none(self):
        for fault in NO_FAULTS:
            self.assert_told(False, ((0, fault),))
            self.assert_told(False, ((0, CUT), (1, fault)))
            self.assert_told(False, ((0, fault), (1, CUT)))

    def test_rows_that_are_none(self):
        for row in [(), (0,), (0, CUT, 0), (CUT, 0), CUT, 0, None, "0c", (0, "cut"), (0, ("bit", 1), 1), {0: CUT}, {}]:
            self.assert_told(False, (row,))
            self.assert_told(False, ((0, CUT), row))
            self.assert_told(False, (row, (9, CUT)))

    def test_lists_for_tuples_at_each_depth(self):
        for thing in ([], [(0, CUT)], ([0, CUT],), ((0, ["cut"]),), ((0, ["bit", 3]),), ((0, CUT), [1, CUT])):
            self.assert_told(False, thing)

    def test_one_fault_without_the_tuple_around(self):
        self.assert_told(False, (0, CUT))
        self.assert_told(False, (0, ("bit", 3)))

    def test_things_of_other_kinds(self):
        for thing in [*OTHER_KINDS, *FAR_NUMBERS, 0, 1, "cut", "-", nested(10), {0: CUT}, {(0, CUT): True}]:
            self.assert_told(thing == () and isinstance(thing, tuple), thing)

    def test_by_name(self):
        self.assertIs(is_weather(thing=((3, CUT),)), True)
        self.assertIs(is_weather(thing=[(3, CUT)]), False)


if __name__ == "__main__":
    unittest.main()
