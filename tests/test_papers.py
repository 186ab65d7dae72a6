"""Point 80: papers."""

import copy
import unittest

from flashkeep.drives import Drive
from flashkeep.errors import NoFlash, NoPaper, NoPlace, NoPlan
from flashkeep.flash import Flash
from flashkeep.papers import is_paper, paper_of, read_by
from helper import (
    FAR_NUMBERS, OTHER_KINDS, Look, answered, assert_refused, built, choices, driven, scattered_flashes,
    scattered_order, scattered_weather, state_of,
)

PLAN = (4, 4, 3, True, True)
NONE = ("none",)


def pages(block, *fields):
    return [("put", block, row) for row in fields]


def papers_by_words(plan, flash, place):
    """All papers of a place, as point 80 tells them."""
    look = Look(plan, flash)
    at = look.newest[place]
    if at is None:
        return [NONE]
    if look.read[at][0] != "member":
        return [("page", *at, None)]
    group = look.read[at][3]
    return [("page", *at, spot) for spot, fields in look.read.items() if fields[0] == "commit" and fields[3] == group]


def things_near(plan):
    """All tuples that could be papers, and some that can't."""
    spots = [(block, page) for block in range(plan[0]) for page in range(plan[1])]
    return [NONE, *[("page", *at, group) for at in spots for group in [None, *spots]]]


class PaperTest(unittest.TestCase):
    def assert_papers(self, plan, flash, place, due, reads):
        """Just these are papers of the place, one of them is told, and by each that is read."""
        before = state_of(flash)
        told = [thing for thing in things_near(plan) if is_paper(plan, flash, place, thing)]
        self.assertEqual(told, sorted(due, key=str))
        self.assertIn(paper_of(plan, flash, place), due)
        for paper in due:
            self.assertEqual(read_by(plan, flash, place, paper), reads)
        self.assertEqual(state_of(flash), before)

    def test_a_place_that_was_never_written(self):
        for flash in [Flash(4, 4), driven(PLAN, [("write", 0, 1)]).flash()]:
            self.assert_papers(PLAN, flash, 1, [NONE], None)

    def test_a_place_that_was_written(self):
        flash = driven(PLAN, [("write", 1, 5), ("write", 1, 0), ("write", 2, 63)]).flash()
        self.assert_papers(PLAN, flash, 1, [("page", 0, 1, None)], 0)
        self.assert_papers(PLAN, flash, 2, [("page", 0, 2, None)], 63)

    def test_a_place_that_was_trimmed(self):
        flash = driven(PLAN, [("write", 1, 5), ("trim", 1)]).flash()
        self.assert_papers(PLAN, flash, 1, [("page", 0, 1, None)], None)

    def test_a_member_with_one_commit(self):
        flash = driven(PLAN, [("write", 0, 1), ("group", ((2, 5), (1, 6)))]).flash()
        self.assert_papers(PLAN, flash, 2, [("page", 0, 1, (0, 3))], 5)
        self.assert_papers(PLAN, flash, 1, [("page", 0, 2, (0, 3))], 6)
        self.assert_papers(PLAN, flash, 0, [("page", 0, 0, None)], 1)

    def test_a_member_with_several_commits(self):
        rows = [("member", 0, 5, 9, 33), ("commit", 0, 1, 9, 0), ("commit", 0, 2, 8, 0)]
        deeds = pages(1, *rows) + pages(3, ("commit", 0, 0, 9, 0), ("commit", 0, 0, 9, 0))
        flash = built(PLAN, deeds)
        self.assert_papers(PLAN, flash, 0, [("page", 1, 0, (1, 1)), ("page", 1, 0, (3, 0)), ("page", 1, 0, (3, 1))], 33)

    def test_a_commit_that_is_mended_and_one_that_is_spoilt(self):
        deeds = pages(1, ("member", 0, 5, 9, 33))
        deeds += [("put", 2, ("commit", 0, 6, 9, 0), 4), ("put", 2, ("commit", 0, 7, 9, 0), 4, 5), ("fail", 2)]
        self.assert_papers(PLAN, built(PLAN, deeds), 0, [("page", 1, 0, (2, 0))], 33)

    def test_a_member_without_a_commit(self):
        flash = built(PLAN, pages(1, ("member", 0, 5, 9, 33), ("commit", 0, 6, 8, 0)))
        self.assert_papers(PLAN, flash, 0, [NONE], None)
        flash = built(PLAN, pages(1, ("write", 0, 1, 0, 7), ("member", 0, 5, 9, 33)))
        self.assert_papers(PLAN, flash, 0, [("page", 1, 0, None)], 7)

    def test_plans_without_seals_or_commits(self):
        plan = (4, 4, 3, False, False)
        flash = driven(plan, [("group", ((2, 5), (1, 6)))]).flash()
        self.assert_papers(plan, flash, 1, [("page", 0, 1, None)], 6)

    def test_one_thing_otherwise(self):
        flash = built(PLAN, pages(1, ("write", 2, 1, 0, 0), ("member", 0, 5, 9, 33), ("commit", 0, 6, 9, 0)))
        paper = ("page", 1, 1, (1, 2))
        self.assertIs(is_paper(PLAN, flash, 0, paper), True)
        wrong = [
            ("pages", 1, 1, (1, 2)), ("none", 1, 1, (1, 2)), ("page", 0, 1, (1, 2)), ("page", 1, 0, (1, 2)),
            ("page", 1, 1, None), ("page", 1, 1, (1, 1)), ("page", 1, 1, (2, 2)), ("page", 1, 1, [1, 2]),
            ("page", 1, 1), ("page", 1, 1, (1, 2), None), ("page", 1, 1, (1,)), ("page", 1, 1, (1, 2, 3)),
            ("page", True, 1, (1, 2)), ("page", 1, True, (1, 2)), ("page", 1, 1, (True, 2)), ("page", 1, 1.0, (1, 2)),
            ("page", 1, 1, (1, 2.0)), ("page", 1, 1, ((1, 2),)), ("page", (1, 1), (1, 2)), (1, 1, (1, 2)),
            ("page", 1, 1, ()), ("page", 1, 1, 1), ["page", 1, 1, (1, 2)], NONE,
        ]
        for thing in wrong:
            self.assert_none(flash, 0, thing)

    def test_truths_for_noughts(self):
        flash = built(PLAN, pages(0, ("write", 0, 1, 0, 7)))
        self.assertIs(is_paper(PLAN, flash, 0, ("page", 0, 0, None)), True)
        for thing in [("page", False, 0, None), ("page", 0, False, None), ("page", 0, 0, False), ("page", 0, 0, 0)]:
            self.assert_none(flash, 0, thing)

    def assert_none(self, flash, place, thing):
        self.assertIs(is_paper(PLAN, flash, place, thing), False, thing)
        assert_refused(self, NoPaper, read_by, PLAN, flash, place, thing)

    def test_of_anything(self):
        flash = driven(PLAN, [("write", 0, 1), ("group", ((1, 5),))]).flash()
        parts = [thing for thing in OTHER_KINDS if thing is not None]
        things = [*OTHER_KINDS, *FAR_NUMBERS, 0, "page", "none", ["none"], ("none", None), (("none",),), ("None",)]
        things += [(part, 0, 0, None) for part in OTHER_KINDS] + [("page", part, 0, None) for part in OTHER_KINDS]
        things += [("page", 0, part, None) for part in OTHER_KINDS] + [("page", 0, 0, part) for part in parts]
        things += [("page", 0, 1, (part, 2)) for part in OTHER_KINDS]
        things += [("page", 0, 1, (0, part)) for part in OTHER_KINDS]
        things += [("page", number, number, (number, number)) for number in FAR_NUMBERS]
        for thing in things:
            before = copy.deepcopy(thing)
            for place in range(3):
                if not (place == 2 and thing == NONE):
                    self.assert_none(flash, place, thing)
            self.assertEqual(thing, before)

    def test_none_is_no_paper_where_a_page_counts(self):
        flash = driven(PLAN, [("write", 0, 1), ("trim", 0)]).flash()
        self.assert_none(flash, 0, NONE)
        self.assert_none(flash, 1, ("page", 0, 0, None))


class RefusedTest(unittest.TestCase):
    CALLS = [(is_paper, {"thing": NONE}), (paper_of, {}), (read_by, {"paper": NONE})]

    def test_no_plan_then_no_flash_then_no_place_then_no_paper(self):
        wrong = {"plan": (2, 2, 2), "flash": Flash(4, 5), "place": 3, "paper": ("page", 0, 0, None)}
        for call, more in self.CALLS:
            right = {"plan": PLAN, "flash": Flash(4, 4), "place": 0, **more}
            names = [name for name in wrong if name in right]
            for many, error in enumerate([NoPlan, NoFlash, NoPlace, NoPaper][:len(names)]):
                args = {**right, **{name: wrong[name] for name in names[many:]}}
                assert_refused(self, error, call, **args)
                assert_refused(self, error, call, *args.values())

    def test_no_plan(self):
        for plan in [*OTHER_KINDS, *FAR_NUMBERS, list(PLAN), (4, 4, 4, True, True)]:
            for call, more in self.CALLS:
                assert_refused(self, NoPlan, call, plan, Flash(4, 4), 0, *more.values())

    def test_no_flash(self):
        for flash in [*OTHER_KINDS, *FAR_NUMBERS, Flash(3, 4), Flash(4, 3), Drive(PLAN), Flash]:
            for call, more in self.CALLS:
                assert_refused(self, NoFlash, call, PLAN, flash, 0, *more.values())

    def test_no_place(self):
        for place in [*OTHER_KINDS, *FAR_NUMBERS, 3, 4, 15, 16, -1]:
            for call, more in self.CALLS:
                assert_refused(self, NoPlace, call, PLAN, Flash(4, 4), place, *more.values())

    def test_by_names_in_another_order(self):
        flash = driven(PLAN, [("write", 2, 9)]).flash()
        paper = ("page", 0, 0, None)
        self.assertIs(is_paper(thing=paper, place=2, flash=flash, plan=PLAN), True)
        self.assertEqual(paper_of(place=2, plan=PLAN, flash=flash), paper)
        self.assertEqual(read_by(paper=paper, flash=flash, place=2, plan=PLAN), 9)


class ScatteredTest(unittest.TestCase):
    def test_by_the_words_of_the_point(self):
        seen = set()
        for plan, flash in scattered_flashes(60):
            before = state_of(flash)
            near = things_near(plan) if plan[0] * plan[1] <= 18 else []
            for place in range(plan[2]):
                due = papers_by_words(plan, flash, place)
                self.assertIn(paper_of(plan, flash, place), due)
                self.assertTrue(all(is_paper(plan, flash, place, paper) for paper in due))
                for thing in near:
                    self.assertEqual(is_paper(plan, flash, place, thing), thing in due)
                seen.add(min(len(due), 2) if due[0] != NONE and due[0][3] else due[0][0])
            self.assertEqual(state_of(flash), before)
        self.assertEqual(seen, {"none", "page", 1, 2})

    def test_of_a_drives_flash_behind_cuts(self):
        for seed in range(40):
            pick = choices(3000, seed)
            plan = pick([PLAN, (3, 6, 1, True, True), (5, 3, 4, False, True), (6, 4, 11, True, False)])
            drive = Drive(plan, scattered_weather(pick, 40, ["cut", "cut", "bad"], 120))
            for _ in range(25):
                answered(drive, scattered_order(pick, plan))
                flash = drive.flash()
                told = [read_by(plan, flash, place, paper_of(plan, flash, place)) for place in range(plan[2])]
                self.assertEqual(tuple(told), drive.reads())
                drive.on()


if __name__ == "__main__":
    unittest.main()
