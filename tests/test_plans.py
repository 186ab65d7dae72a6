"""Point 40: what a plan is, and which flash is one of it."""

import itertools
import unittest

from flashkeep.errors import NoFlash, NoPlan
from flashkeep.flash import Flash
from flashkeep.scans import free, is_plan, scan, to_collect, to_open
from flashkeep.wear import living, room
from helper import FAR_NUMBERS, OTHER_KINDS, assert_refused, nested

PLAN = (4, 4, 3, True, True)
NO_PARTS = [-1, True, False, None, "4", "", [], [4], (), (4,), {}, 4.0, *FAR_NUMBERS]
NO_TRUTHS = [0, 1, 2, None, "", "True", [], [True], (), (True,), {}, 1.0]
NO_PLANS = [
    (2, 8, 1, True, True), (9, 8, 1, True, True), (3, 5, 1, True, True), (4, 4, 4, True, True), (4, 4, 0, True, True),
    (4, 4, 3, 1, True), (4, 4, 3, True, 0), (4, 4, 3, True), (4, 4, 3, True, True, True), list(PLAN), [4, 4], (PLAN,),
    (True, 4, 3, True, True), (4, True, 3, True, True), (4, 4, True, True, True), *OTHER_KINDS, *FAR_NUMBERS,
]
CALLS = [scan, to_open, free, to_collect, living, lambda plan, flash: room(plan, flash, 1)]


def asked_wrongly(plan, flash):
    return room(plan, flash, 0)


class PlanTest(unittest.TestCase):
    def test_every_number_of_blocks_pages_and_places(self):
        for blocks, pages, places in itertools.product(range(-1, 11), range(-1, 11), range(-1, 19)):
            due = 3 <= blocks <= 8 and 2 <= pages <= 8 and 1 <= places <= 16 and places <= (blocks - 2) * pages - 5
            self.assertIs(is_plan((blocks, pages, places, True, False)), due, (blocks, pages, places))

    def test_plans_by_hand(self):
        for plan in ((3, 6, 1), (3, 8, 3), (4, 3, 1), (4, 4, 3), (5, 2, 1), (8, 2, 7), (8, 8, 16), (6, 5, 15)):
            for sealed, commits in itertools.product((True, False), repeat=2):
                self.assertIs(is_plan((*plan, sealed, commits)), True, plan)
        for plan in ((3, 5, 1), (3, 6, 2), (3, 8, 4), (4, 2, 1), (4, 4, 4), (5, 2, 2), (8, 2, 8), (8, 8, 17)):
            self.assertIs(is_plan((*plan, True, True)), False, plan)

    def test_parts_of_other_kinds(self):
        for at, part in itertools.product(range(3), NO_PARTS):
            self.assertIs(is_plan((*PLAN[:at], part, *PLAN[at + 1:])), False, (at, part))
        for at, part in itertools.product((3, 4), NO_TRUTHS):
            self.assertIs(is_plan((*PLAN[:at], part, *PLAN[at + 1:])), False, (at, part))

    def test_things_that_are_none(self):
        for thing in [*NO_PLANS, nested(10), "plan", 0, 5, {4: 4}]:
            self.assertIs(is_plan(thing), False, repr(thing)[:80])

    def test_by_name(self):
        self.assertIs(is_plan(thing=PLAN), True)
        self.assertIs(is_plan(thing=PLAN[:4]), False)


class FlashOfPlanTest(unittest.TestCase):
    def test_no_plan(self):
        for call, plan in itertools.product([*CALLS, asked_wrongly], NO_PLANS):
            for flash in (Flash(4, 4), Flash(3, 5), Flash(1, 1), None):
                assert_refused(self, NoPlan, call, plan, flash)
                assert_refused(self, NoPlan, call, flash=flash, plan=plan)

    def test_no_flash(self):
        others = [Flash(blocks, pages) for blocks, pages in ((3, 4), (5, 4), (4, 3), (4, 5), (8, 2), (1, 1), (8, 8))]
        for call, flash in itertools.product([*CALLS, asked_wrongly], [*others, *OTHER_KINDS, PLAN, 4, "flash"]):
            assert_refused(self, NoFlash, call, PLAN, flash)
            assert_refused(self, NoFlash, call, flash=flash, plan=PLAN)

    def test_blocks_and_pages_the_other_way_round(self):
        for call in CALLS:
            assert_refused(self, NoFlash, call, (5, 4, 3, True, True), Flash(4, 5))


if __name__ == "__main__":
    unittest.main()
