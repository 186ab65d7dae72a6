"""Points 100 and 101: what is read behind a cut at each step, what is due, and which faults break it."""

import unittest

from flashkeep.cuts import due, held, least_break, outcomes
from flashkeep.drives import Drive
from flashkeep.errors import NoNumber, NoOrders, NoPlan, NoWeather
from helper import (
    FAR_NUMBERS, OTHER_KINDS, answered, assert_refused, choices, put_down, scattered_order, scattered_plan,
    scattered_weather,
)

PLAN = (4, 4, 3, True, True)
BARE = (4, 4, 3, False, False)
CUT, BAD = ("cut",), ("bad",)
ORDERS = (("write", 0, 5), ("group", ((1, 6), (2, 7))), ("trim", 0))
WRONG_PLANS = [*OTHER_KINDS, *FAR_NUMBERS, list(PLAN), (4, 4, 4, True, True), (2, 8, 1, True, True)]
WRONG_ORDERS = [
    *[thing for thing in OTHER_KINDS if thing != ()], *FAR_NUMBERS, [("mend",)], list(ORDERS), (("mend",),) * 7,
    (("read", 3),), (("mend",), ("fence",)), (("mend",), None), ("mend",), ("read", 0), (["read", 0],),
    (("write", 0, 64),),
]
FORTY = tuple((step, BAD) for step in range(40))
WRONG_WEATHERS = [
    *[thing for thing in OTHER_KINDS if thing != ()], *FAR_NUMBERS, FORTY, (*FORTY, (40, BAD)), [(0, CUT)],
    ((0, "cut"),), ((1, CUT), (0, CUT)), ((10000, CUT),),
]


def run_by_itself(plan, orders, weather):
    """(steps, done, reads, orders done) of one drive that is told the orders."""
    drive = Drive(plan, weather)
    done = [order for order in orders if answered(drive, order)[0] == "told"]
    return drive.steps(), len(done), drive.reads(), done


def with_cut(weather, step):
    rows = {**dict(weather), step: CUT}
    return tuple(sorted(rows.items()))


def outcomes_by_words(plan, orders, weather):
    """(step, done, reads) and the orders done, by a drive for each cut by itself."""
    steps = run_by_itself(plan, orders, weather)[0]
    runs = [(step, *run_by_itself(plan, orders, with_cut(weather, step))[1:]) for step in range(steps)]
    return [*runs, (None, *run_by_itself(plan, orders, weather)[1:])]


def held_by_words(plan, orders, weather):
    for step, _, reads, done in outcomes_by_words(plan, orders, weather):
        row = [None] * plan[2]
        for order in done:
            row = put_down(row, order)
        unlike = [place for place in range(plan[2]) if reads[place] != row[place]]
        if unlike:
            return step, unlike[0]
    return None


def scattered_runs(many, faults=("cut", "bad", "bit"), most=39):
    for seed in range(many):
        pick = choices(3000, seed)
        plan = scattered_plan(pick)
        kinds = ("read", "write", "trim", "group", "group", "group", "mend")
        orders = tuple(scattered_order(pick, plan, kinds) for _ in range(pick([0, 1, 2, 3, 6, 6, 6])))
        yield plan, orders, scattered_weather(pick, pick([0, 1, 3, most]), faults, pick([10, 30, 60]))


class OutcomesTest(unittest.TestCase):
    def test_no_orders(self):
        self.assertEqual(outcomes(PLAN, ()), ((None, 0, (None, None, None)),))
        self.assertEqual(outcomes(PLAN, (), ((0, CUT),)), ((None, 0, (None, None, None)),))

    def test_orders_that_take_no_step(self):
        self.assertEqual(outcomes(PLAN, (("read", 0), ("trim", 1), ("mend",))), ((None, 3, (None, None, None)),))

    def test_by_hand(self):
        self.assertEqual(outcomes(PLAN, ORDERS), (
            (0, 0, (None, None, None)),
            (1, 1, (5, None, None)),
            (2, 1, (5, None, None)),
            (3, 1, (5, None, None)),
            (4, 2, (5, 6, 7)),
            (None, 3, (None, 6, 7)),
        ))

    def test_without_commits_a_group_is_done_in_part(self):
        self.assertEqual(outcomes((4, 4, 3, True, False), ORDERS), (
            (0, 0, (None, None, None)),
            (1, 1, (5, None, None)),
            (2, 1, (5, 6, None)),
            (3, 2, (5, 6, 7)),
            (None, 3, (None, 6, 7)),
        ))

    def test_a_weather_with_a_cut_ends_there(self):
        told = outcomes(PLAN, ORDERS, ((2, CUT),))
        due_then = ((0, 0, (None,) * 3), (1, 1, (5, None, None)), (2, 1, (5, None, None)), (None, 1, (5, None, None)))
        self.assertEqual(told, due_then)

    def test_a_cut_in_the_place_of_a_fault(self):
        # At step 0 block 0 fails, so that the write takes a step more; at step 2 a bit is turned.
        told = outcomes(BARE, (("write", 0, 5), ("write", 0, 6)), ((0, BAD), (2, ("bit", 0))))
        self.assertEqual(told, (
            (0, 0, (None,) * 3), (1, 0, (None,) * 3), (2, 1, (5, None, None)), (None, 2, (7, None, None)),
        ))

    def test_orders_that_are_refused_are_not_done_and_later_ones_are_asked(self):
        # All blocks fail as the first order is done; reads are done on.
        weather = tuple((step, BAD) for step in range(4))
        told = outcomes(PLAN, (("write", 0, 5), ("read", 0), ("write", 1, 6), ("mend",)), weather)
        none = (None, None, None)
        self.assertEqual(told, (*[(step, 0, none) for step in range(4)], (None, 2, none)))

    def test_one_order_and_six(self):
        for orders in [(("write", 2, 5),), tuple(("group", ((0, k), (1, k), (2, k))) for k in range(6))]:
            due_rows = [row[:3] for row in outcomes_by_words(PLAN, orders, ())]
            self.assertEqual(list(outcomes(PLAN, orders)), due_rows)

    def test_thirty_nine_faults(self):
        for faults in [FORTY[:39], tuple((step, ("bit", step)) for step in range(39)), ((3, CUT), *FORTY[4:])]:
            orders = tuple(("group", ((0, k), (1, k), (2, k))) for k in range(6))
            due_rows = [row[:3] for row in outcomes_by_words(PLAN, orders, faults)]
            self.assertEqual(list(outcomes(PLAN, orders, faults)), due_rows)

    def test_by_a_drive_for_each_cut(self):
        most = 0
        for plan, orders, weather in scattered_runs(150):
            told = outcomes(plan, orders, weather)
            self.assertEqual(list(told), [row[:3] for row in outcomes_by_words(plan, orders, weather)])
            self.assertIsInstance(told, tuple)
            self.assertEqual(outcomes(plan, orders, weather), told)
            most = max(most, len(told))
        self.assertGreater(most, 20)

    def test_no_plan_then_no_orders_then_no_weather(self):
        for call in (outcomes, held):
            assert_refused(self, NoPlan, call, None, None, None)
            assert_refused(self, NoOrders, call, PLAN, None, None)
            assert_refused(self, NoWeather, call, PLAN, ORDERS, None)
            for plan in WRONG_PLANS:
                assert_refused(self, NoPlan, call, plan, ())
                assert_refused(self, NoPlan, call, weather=None, orders=7, plan=plan)
            for orders in WRONG_ORDERS:
                assert_refused(self, NoOrders, call, PLAN, orders)
                assert_refused(self, NoOrders, call, orders=orders, weather=7, plan=PLAN)
            for weather in WRONG_WEATHERS:
                assert_refused(self, NoWeather, call, PLAN, ORDERS, weather)
                assert_refused(self, NoWeather, call, weather=weather, orders=(), plan=PLAN)

    def test_orders_of_another_plan(self):
        orders = (("read", 3),)
        self.assertEqual(len(outcomes((5, 3, 4, True, True), orders)), 1)
        assert_refused(self, NoOrders, outcomes, PLAN, orders)

    def test_by_names_in_another_order(self):
        self.assertEqual(outcomes(orders=ORDERS, plan=PLAN), outcomes(PLAN, ORDERS, ()))
        weather = ((2, CUT),)
        self.assertEqual(outcomes(weather=weather, orders=ORDERS, plan=PLAN), outcomes(PLAN, ORDERS, weather))


class DueTest(unittest.TestCase):
    def test_by_hand(self):
        self.assertEqual(due(PLAN, ()), (None, None, None))
        self.assertEqual(due(PLAN, ORDERS), (None, 6, 7))
        self.assertEqual(due(PLAN, (("write", 2, 0), ("read", 2), ("mend",))), (None, None, 0))
        self.assertEqual(due((3, 6, 1, False, False), (("group", ((0, 9),)), ("write", 0, 8))), (8,))

    def test_as_a_drive_that_nothing_strikes(self):
        for plan, orders, _ in scattered_runs(80):
            drive = Drive(plan)
            for order in orders:
                drive.do(order)
            self.assertEqual(due(plan, orders), drive.reads())
            self.assertEqual(due(orders=orders, plan=plan), outcomes(plan, orders)[-1][2])

    def test_refused(self):
        for plan in WRONG_PLANS:
            assert_refused(self, NoPlan, due, plan, None)
        for orders in WRONG_ORDERS:
            assert_refused(self, NoOrders, due, PLAN, orders)
            assert_refused(self, NoOrders, due, orders=orders, plan=PLAN)


class HeldTest(unittest.TestCase):
    def test_with_seals_and_commits(self):
        self.assertIsNone(held(PLAN, ()))
        self.assertIsNone(held(PLAN, ORDERS))
        self.assertIsNone(held(PLAN, ORDERS, ((0, BAD), (2, ("bit", 7)), (5, BAD))))

    def test_without_commits_a_cut_breaks_a_group(self):
        # Power goes at the second page of the group: place 1 reads 6 already.
        self.assertEqual(held((4, 4, 3, True, False), ORDERS), (2, 1))
        rows = ((2, 6), (0, 7), (1, 8))
        # At the second page place 2 reads otherwise, at the third places 2 and 0.
        self.assertEqual(held(BARE, (("group", rows),)), (1, 2))

    def test_the_first_place_that_reads_otherwise(self):
        # With the weather's own cut at the third page, the first outcome that doesn't hold comes ahead of it.
        rows = ((0, 0), (1, 8), (2, 6))
        orders = (("write", 0, 0), ("group", rows))
        # Place 0 reads 0 as it did, so only the third page shows.
        self.assertEqual(held(BARE, orders), (3, 1))

    def test_without_seals_a_bit_breaks_a_write(self):
        plan = (4, 4, 3, False, True)
        self.assertIsNone(held(plan, ORDERS))
        # The bit is turned at step 0 already: as power goes at step 1 place 0 reads 4.
        self.assertEqual(held(plan, ORDERS, ((0, ("bit", 0)),)), (1, 0))
        # The last write is turned: only behind the weather as it is.
        self.assertEqual(held(plan, ORDERS[:2], ((1, ("bit", 0)),)), (None, 1))
        self.assertEqual(held(plan, (("write", 2, 1),), ((0, ("bit", 0)),)), (None, 2))

    def test_two_bits_break_a_page_with_seals(self):
        orders = (("write", 0, 5), ("read", 0), ("write", 1, 6))
        self.assertIsNone(held(PLAN, orders, ((0, ("bit", 9)),)))
        self.assertEqual(held(PLAN, orders, ((0, ("bit", 9)), (1, ("bit", 8)))), (2, 0))

    def test_by_the_words_of_the_point(self):
        seen = {}
        for plan, orders, weather in scattered_runs(300, most=8):
            told = held_by_words(plan, orders, weather)
            self.assertEqual(held(plan, orders, weather), told)
            self.assertEqual(held(weather=weather, orders=orders, plan=plan), told)
            seen[told is None] = True
        self.assertEqual(len(seen), 2)

    def test_cuts_and_failing_blocks_break_nothing_with_seals_and_commits(self):
        for plan, orders, weather in scattered_runs(150, ("cut", "bad", "bad")):
            self.assertIsNone(held((*plan[:3], True, True), orders, weather))


class LeastBreakTest(unittest.TestCase):
    def test_none_with_seals_and_commits(self):
        for bit in range(47):
            self.assertIsNone(least_break(PLAN, ORDERS, bit))
        self.assertIsNone(least_break(BARE, (), 0))
        for plan, orders, _ in scattered_runs(25):
            self.assertIsNone(least_break((*plan[:3], True, True), orders, len(orders) * 7))

    def test_without_commits_no_weather_is_enough(self):
        self.assertEqual(least_break((4, 4, 3, True, False), ORDERS, 0), ((), (2, 1)))
        self.assertIsNone(least_break((4, 4, 3, True, False), (ORDERS[0], ORDERS[2]), 0))

    def test_without_seals_a_turned_bit(self):
        plan = (4, 4, 3, False, True)
        self.assertEqual(least_break(plan, ORDERS, 0), (((0, ("bit", 0)),), (1, 0)))
        # Only at the second step it shows: the trim of a place that is read at the first one by no step.
        orders = (("trim", 0), ("write", 1, 1))
        self.assertEqual(least_break(plan, orders, 0), (((0, ("bit", 0)),), (None, 1)))
        # A bit of the number breaks nothing where there is one page.
        self.assertIsNone(least_break(plan, (("write", 1, 1),), 25))

    def test_weathers_by_step(self):
        # Number 2 with bit 21 turned, worth 2, is 0: below that of the page ahead of it, so that place 0 reads 5 on.
        orders = (("write", 0, 5), ("write", 0, 6))
        self.assertEqual(least_break((4, 4, 3, False, True), orders, 21), (((1, ("bit", 21)),), (None, 0)))

    def test_by_the_words_of_the_point(self):
        seen = {}
        for seed in range(40):
            pick = choices(3000, seed)
            shape = pick([(3, 6, 1), (4, 4, 3), (5, 2, 1), (5, 3, 4), (8, 2, 7)])
            plan = (*shape, pick([True, False]), pick([True, False]))
            orders = tuple(scattered_order(pick, plan) for _ in range(pick(range(5))))
            bit = pick(range(47))
            steps = run_by_itself(plan, orders, ())[0]
            weathers = [(), *[((step, ("bit", bit)),) for step in range(steps)]]
            rows = [(weather, held_by_words(plan, orders, weather)) for weather in weathers]
            broken = [row for row in rows if row[1]]
            told = broken[0] if broken else None
            self.assertEqual(least_break(plan, orders, bit), told)
            seen[told and len(told[0])] = True
        self.assertEqual(len(seen), 3)

    def test_refused(self):
        for plan in WRONG_PLANS:
            assert_refused(self, NoPlan, least_break, plan, None, None)
        for orders in WRONG_ORDERS:
            assert_refused(self, NoOrders, least_break, PLAN, orders, None)
        for bit in [47, 48, -1, *FAR_NUMBERS, *OTHER_KINDS]:
            assert_refused(self, NoNumber, least_break, PLAN, ORDERS, bit)
            # Though the run breaks by no weather.
            assert_refused(self, NoNumber, least_break, bit=bit, orders=ORDERS, plan=BARE)

    def test_by_names_in_another_order(self):
        self.assertEqual(least_break(bit=0, orders=ORDERS, plan=BARE), least_break(BARE, ORDERS, 0))
        self.assertIsNone(least_break(PLAN, bit=46, orders=ORDERS))


if __name__ == "__main__":
    unittest.main()
