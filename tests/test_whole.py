"""Point 3: the promise over the whole, of plans with seals and commits, on flashes that drives alone have written."""

import unittest

from flashkeep.drives import Drive
from flashkeep.papers import is_paper, paper_of, read_by
from flashkeep.queues import Queue
from flashkeep.wear import worn
from helper import answered, choices, put_down, scattered_order, scattered_weather, state_of

SHAPES = [
    (3, 6, 1), (3, 7, 2), (3, 8, 3), (4, 3, 1), (4, 4, 3), (4, 4, 1), (5, 2, 1), (5, 3, 4), (6, 2, 3), (8, 2, 7),
    (6, 4, 11), (4, 8, 11), (8, 8, 16),
]
FAULTS = [["cut"], ["cut"] * 12 + ["bad"], ["cut"] * 4 + ["bad"], ["bad"]]


def runs(many):
    """Drives of all shapes, in weathers of cuts and failing blocks, each with a function that picks."""
    for seed in range(many):
        pick = choices(4000, seed)
        plan = (*SHAPES[seed % len(SHAPES)], True, True)
        weather = scattered_weather(pick, 40, pick(FAULTS), pick([60, 200, 400]))
        if weather and pick([True, False]):
            # One bit that is turned is mended wherever it is.
            at = pick(range(len(weather)))
            weather = (*weather[:at], (weather[at][0], ("bit", pick(range(47)))), *weather[at + 1:])
        yield plan, weather, pick


class PromiseTest(unittest.TestCase):
    def assert_reads(self, drive, row):
        plan, flash = drive.plan(), drive.flash()
        self.assertEqual(drive.reads(), tuple(row))
        papers = [paper_of(plan, flash, place) for place in range(plan[2])]
        self.assertEqual([read_by(plan, flash, place, paper) for place, paper in enumerate(papers)], row)
        self.assertTrue(all(is_paper(plan, flash, place, paper) for place, paper in enumerate(papers)))

    def assert_worn_alike(self, drive):
        counts = worn(drive.flash())
        self.assertTrue(counts is None or counts[1] - counts[0] <= 1, counts)

    def assert_up_again(self, drive, row):
        """Drives made anew of its flash, and of theirs, read the same, and coming up writes nothing."""
        flash = drive.flash()
        once = Drive(drive.plan(), flash=flash)
        twice = Drive(drive.plan(), flash=once.flash())
        flash.on()
        for other in (once, twice):
            self.assertEqual(other.reads(), tuple(row))
            self.assertEqual(state_of(other.flash()), state_of(flash))

    def test_long_runs_with_many_cuts_and_failing_blocks(self):
        seen = {}
        for plan, weather, pick in runs(130):
            drive = Drive(plan, weather)
            row = [None] * plan[2]
            for _ in range(40):
                order = scattered_order(pick, plan)
                told = answered(drive, order)
                seen[told[0] if told[0] == "told" else told[1]] = True
                if told[0] == "told":
                    row = put_down(row, order)
                if order[0] == "read" and told[0] == "told":
                    self.assertEqual(told[1], row[order[1]])
                self.assert_reads(drive, row)
                self.assert_worn_alike(drive)
                if not drive.is_on():
                    self.assert_up_again(drive, row)
                    drive.on()
        self.assertEqual(sorted(seen), ["off", "room", "told", "worn"])

    def test_nothing_is_refused_for_want_of_room_as_long_as_nothing_struck(self):
        for seed, shape in enumerate(SHAPES * 2):
            plan = (*shape, True, True)
            pick = choices(4000, seed + 500)
            drive = Drive(plan)
            row = [None] * plan[2]
            # All places are written first, so that as much as can be is newest.
            orders = [("write", place, 1) for place in range(plan[2])]
            orders += [scattered_order(pick, plan, ["write", "group", "group", "trim"]) for _ in range(100)]
            for order in orders:
                self.assertEqual(answered(drive, order), ("told", None))
                row = put_down(row, order)
                self.assert_worn_alike(drive)
            self.assert_reads(drive, row)

    def test_two_drives_do_alike(self):
        for plan, weather, pick in runs(26):
            drives = [Drive(plan, weather), Drive(plan, weather)]
            for _ in range(20):
                order = scattered_order(pick, plan)
                self.assertEqual(answered(drives[0], order), answered(drives[1], order))
                self.assertEqual(state_of(drives[0].flash()), state_of(drives[1].flash()))
                for drive in drives:
                    drive.on()

    def test_queued_orders_are_answered_as_if_done_in_their_order(self):
        for seed, shape in enumerate(SHAPES * 3):
            pick = choices(4000, seed + 900)
            plan = (*shape, True, True)
            drive = Drive(plan)
            queue, other = Queue(drive), Drive(plan)
            kinds = ["read", "read", "write", "trim", "group", "fence"]
            due = []
            for _ in range(30):
                kind = pick(kinds)
                order = ("fence",) if kind == "fence" else scattered_order(pick, plan, [kind])
                due.append(("told", None) if kind == "fence" else answered(other, order))
                queue.ask(order)
                if pick([True, False, False]):
                    queue.go()
            while queue.go() is not None:
                pass
            self.assertEqual([queue.answer(number) for number in range(30)], due)
            self.assertEqual(drive.reads(), other.reads())


if __name__ == "__main__":
    unittest.main()
