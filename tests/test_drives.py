"""Points 50, 51 and 56: how a drive is made, what orders tell, power, and twins."""

import unittest

from flashkeep.drives import Drive
from flashkeep.errors import NoFlash, NoOrder, NoPlan, NoWeather, Off
from flashkeep.flash import Flash
from flashkeep.pages import word_of
from flashkeep.scans import scan
from helper import (
    FAR_NUMBERS, OTHER_KINDS, assert_refused, answered, built, choices, driven, pages_on, put_down, scattered_order,
    scattered_weather, state_of,
)

PLAN = (4, 4, 3, True, True)
FOUR_WAYS = [(sealed, commits) for sealed in (True, False) for commits in (True, False)]
WRONG_PLANS = [*OTHER_KINDS, *FAR_NUMBERS, (2, 8, 1, True, True), (4, 4, 4, True, True), list(PLAN), PLAN[:4]]
WRONG_WEATHERS = [
    *[thing for thing in OTHER_KINDS if thing != ()], *FAR_NUMBERS, ((0, ("rain",)),), ((1, ("cut",)), (0, ("cut",))),
    [(0, ("cut",))], tuple((step, ("cut",)) for step in range(41)), ((10000, ("cut",)),),
]


class MadeTest(unittest.TestCase):
    def test_on_a_blank_flash(self):
        drive = Drive(PLAN)
        self.assertEqual(state_of(drive.flash()), state_of(Flash(4, 4)))
        self.assertEqual(drive.reads(), (None, None, None))
        self.assertEqual(drive.plan(), PLAN)
        self.assertEqual((drive.steps(), drive.is_on()), (0, True))

    def test_of_each_shape(self):
        for plan in [(3, 6, 1, True, False), (8, 2, 7, False, True), (8, 8, 16, False, False)]:
            drive = Drive(plan)
            self.assertEqual((drive.flash().blocks(), drive.flash().pages()), plan[:2])
            self.assertEqual((drive.plan(), drive.reads()), (plan, (None,) * plan[2]))

    def test_the_weather_strikes_it(self):
        drive = Drive(PLAN, ((1, ("cut",)),))
        drive.do(("write", 0, 1))
        assert_refused_order(self, Off, drive, ("write", 0, 2))
        self.assertEqual((drive.steps(), drive.is_on()), (2, False))

    def test_no_plan(self):
        for plan in WRONG_PLANS:
            assert_refused(self, NoPlan, Drive, plan)
            assert_refused(self, NoPlan, Drive, plan, "no weather")
            assert_refused(self, NoPlan, Drive, plan, flash="no flash")
            assert_refused(self, NoPlan, Drive, flash=Flash(4, 4), weather=None, plan=plan)

    def test_no_weather(self):
        for weather in WRONG_WEATHERS:
            assert_refused(self, NoWeather, Drive, PLAN, weather)
            assert_refused(self, NoWeather, Drive, weather=weather, plan=PLAN)
            assert_refused(self, NoWeather, Drive, PLAN, weather, flash=None)

    def test_no_flash(self):
        wrong = [thing for thing in OTHER_KINDS if thing is not None] + FAR_NUMBERS + [0, PLAN, Flash, Drive(PLAN)]
        wrong += [Flash(3, 4), Flash(5, 4), Flash(4, 3), Flash(4, 5), Flash(1, 1), Flash(8, 8)]
        for flash in wrong:
            assert_refused(self, NoFlash, Drive, PLAN, flash=flash)
            assert_refused(self, NoFlash, Drive, PLAN, (), flash=flash)
            assert_refused(self, NoFlash, Drive, flash=flash, weather="no weather", plan=PLAN)

    def test_a_weather_beside_a_flash_is_not_looked_at(self):
        for weather in [*WRONG_WEATHERS, ((0, ("cut",)),)]:
            drive = Drive(PLAN, weather, flash=Flash(4, 4))
            drive.do(("write", 1, 5))
            self.assertEqual(drive.reads(), (None, 5, None))

    def test_a_flash_is_handed_in_by_its_name_alone(self):
        with self.assertRaises(TypeError):
            Drive(PLAN, (), Flash(4, 4))

    def test_by_names_in_another_order(self):
        flash = built(PLAN, [("put", 0, ("write", 1, 1, 0, 9))])
        self.assertEqual(Drive(flash=flash, plan=PLAN).reads(), (None, 9, None))
        drive = Drive(weather=((0, ("cut",)),), plan=PLAN)
        assert_refused_order(self, Off, drive, ("write", 0, 2))

    def test_on_a_twin_of_the_flash_with_power_on(self):
        flash = built(PLAN, [("put", 0, ("write", 1, 1, 0, 9))], ((1, ("bit", 0)),))
        flash.off()
        before = state_of(flash)
        drive = Drive(PLAN, flash=flash)
        self.assertEqual((drive.is_on(), drive.steps(), drive.reads()), (True, 1, (None, 9, None)))
        drive.do(("write", 1, 10))
        self.assertEqual(state_of(flash), before)
        flash.on()
        flash.wipe(0)
        self.assertEqual(drive.reads(), (None, 10, None))
        # The weather of the flash that was handed in goes on, too: behind the write, the third step is struck.
        self.assertEqual(drive.do(("read", 1)), 10)
        self.assertEqual(drive.do(("mend",)), (1,))

    def test_methods_stand_in_the_class(self):
        for name in ["do", "on", "off", "flash", "steps", "is_on", "reads", "plan", "twin"]:
            self.assertIn(name, vars(Drive))


def assert_refused_order(case, error, drive, order):
    with case.assertRaises(error) as caught:
        drive.do(order)
    case.assertIs(type(caught.exception), error)


def told_of(row, order):
    """What an order tells that nothing strikes, by a plain list of places."""
    if order[0] == "read":
        return row[order[1]]
    return () if order[0] == "mend" else None


class ToldTest(unittest.TestCase):
    def test_twenty_orders_beside_a_plain_list(self):
        orders = [
            ("read", 0), ("trim", 0), ("write", 0, 0), ("read", 0), ("group", ((2, 5), (1, 63))), ("read", 1),
            ("read", 2), ("mend",), ("trim", 2), ("read", 2), ("trim", 2), ("write", 2, 1), ("group", ((0, 7),)),
            ("read", 0), ("group", ((1, 8), (0, 9), (2, 10))), ("write", 1, 11), ("trim", 0), ("read", 0),
            ("write", 0, 12), ("read", 1), ("mend",), ("group", ((2, 13), (1, 14))), ("read", 2),
        ]
        for way in FOUR_WAYS:
            drive = Drive((4, 4, 3, *way))
            row = [None, None, None]
            for order in orders:
                told = drive.do(order)
                row = put_down(row, order)
                self.assertEqual(told, told_of(row, order))
                self.assertEqual(drive.reads(), tuple(row))

    def test_long_runs_beside_a_plain_list(self):
        plans = [(3, 6, 1), (3, 8, 3), (5, 2, 1), (4, 4, 3), (8, 2, 7), (6, 4, 11), (8, 8, 16)]
        for seed, plan in enumerate((*shape, *way) for shape in plans for way in FOUR_WAYS):
            pick = choices(2000, seed)
            drive = Drive(plan)
            row = [None] * plan[2]
            for _ in range(60):
                order = scattered_order(pick, plan)
                told = drive.do(order)
                row = put_down(row, order)
                self.assertEqual(told, told_of(row, order))
                self.assertEqual(drive.reads(), tuple(row))

    def test_steps_of_orders(self):
        for sealed, commits in FOUR_WAYS:
            drive = Drive((4, 4, 3, sealed, commits))
            group = 3 if commits else 2
            orders = [
                (("read", 1), 0), (("trim", 1), 0), (("mend",), 0), (("write", 1, 5), 1), (("read", 1), 1),
                (("trim", 1), 1), (("read", 1), 0), (("trim", 1), 0), (("mend",), 1),
                (("group", ((1, 2), (2, 3))), group), (("read", 2), 1), (("mend",), 2),
            ]
            for order, many in orders:
                before = drive.steps()
                drive.do(order)
                self.assertEqual(drive.steps() - before, many, order)

    def test_a_trim_of_a_place_that_reads_none_writes_nothing(self):
        drive = driven(PLAN, [("write", 0, 1), ("trim", 0)])
        before = state_of(drive.flash())
        for order in [("trim", 0), ("trim", 1), ("read", 0), ("read", 2)]:
            self.assertIsNone(drive.do(order))
        self.assertEqual(state_of(drive.flash()), before)

    def test_data_nought_is_no_none(self):
        drive = driven(PLAN, [("write", 2, 0)])
        self.assertEqual(drive.do(("read", 2)), 0)
        self.assertEqual(drive.reads(), (None, None, 0))

    def test_a_group_with_commits_and_without(self):
        orders = [("group", ((2, 5), (0, 6)))]
        self.assertEqual(pages_on(PLAN, driven(PLAN, orders).flash()), {
            (0, 0): ("member", 2, 1, 1, 5), (0, 1): ("member", 0, 2, 1, 6), (0, 2): ("commit", 0, 3, 1, 0),
        })
        plan = (4, 4, 3, True, False)
        self.assertEqual(pages_on(plan, driven(plan, orders).flash()), {
            (0, 0): ("write", 2, 1, 0, 5), (0, 1): ("write", 0, 2, 0, 6),
        })

    def test_words_are_sealed_as_the_plan_says(self):
        for sealed, commits in FOUR_WAYS:
            flash = driven((4, 4, 3, sealed, commits), [("write", 0, 1)]).flash()
            self.assertEqual(flash.peek(0, 0), ("word", word_of(("write", 0, 1, 0, 1), sealed)))

    def test_what_is_told_of_a_flash_by_hand(self):
        pages = [("member", 0, 5, 5, 9), ("trim", 1, 4, 0, 0), ("write", 2, 3, 0, 8), ("write", 0, 2, 0, 7)]
        drive = Drive(PLAN, flash=built(PLAN, [("put", 1, page) for page in pages]))
        self.assertEqual(drive.reads(), (7, None, 8))
        self.assertEqual([drive.do(("read", place)) for place in range(3)], [7, None, 8])
        self.assertEqual(drive.steps(), 6)


class OrderRefusedTest(unittest.TestCase):
    WRONG = [*OTHER_KINDS, *FAR_NUMBERS, ("read", 3), ("read", -1), ("read", True), ("write", 0, 64), ("group", ()),
             ("fence",), ["mend"], ("trim", 3), ("group", ((0, 1), (0, 2)))]

    def test_no_order_turns_nothing(self):
        drive = driven(PLAN, [("write", 0, 1)])
        before = state_of(drive.flash())
        for order in self.WRONG:
            assert_refused(self, NoOrder, drive.do, order)
            assert_refused(self, NoOrder, drive.do, order=order)
        self.assertEqual(state_of(drive.flash()), before)

    def test_no_order_ahead_of_off(self):
        drive = driven(PLAN, [("write", 0, 1)])
        drive.off()
        for order in self.WRONG:
            assert_refused(self, NoOrder, drive.do, order)

    def test_off_by_no_step(self):
        drive = driven(PLAN, [("write", 0, 1)])
        drive.off()
        before = state_of(drive.flash())
        orders = [("read", 0), ("read", 1), ("write", 0, 2), ("trim", 0), ("trim", 1), ("group", ((0, 1),)), ("mend",)]
        for order in orders:
            assert_refused_order(self, Off, drive, order)
        self.assertEqual(state_of(drive.flash()), before)

    def test_off_ahead_of_the_refusals_behind_it(self):
        failed = Drive(PLAN, flash=built(PLAN, [("fail", block) for block in range(4)]))
        failed.off()
        assert_refused_order(self, Off, failed, ("write", 0, 1))


class PowerTest(unittest.TestCase):
    def test_on_and_off(self):
        drive = driven(PLAN, [("write", 0, 1)])
        self.assertIsNone(drive.off())
        self.assertIs(drive.is_on(), False)
        self.assertIsNone(drive.off())
        self.assertIs(drive.is_on(), False)
        self.assertIsNone(drive.on())
        self.assertIs(drive.is_on(), True)
        self.assertIsNone(drive.on())
        self.assertEqual(drive.steps(), 1)
        self.assertEqual(drive.do(("read", 0)), 1)

    def test_told_without_power(self):
        drive = driven(PLAN, [("write", 0, 1), ("group", ((1, 2), (2, 3)))])
        drive.off()
        self.assertEqual((drive.reads(), drive.steps(), drive.plan()), ((1, 2, 3), 4, PLAN))
        self.assertIs(drive.flash().is_on(), False)

    def test_coming_up_writes_nothing(self):
        drive = driven(PLAN, [("write", 0, 1), ("group", ((1, 2), (2, 3)))])
        before = state_of(drive.flash())
        for _ in range(2):
            drive.off()
            drive.on()
            self.assertEqual(state_of(drive.flash()), before)


class TwinTest(unittest.TestCase):
    def test_a_flash_told_is_the_askers_own(self):
        drive = driven(PLAN, [("write", 0, 1)])
        flash = drive.flash()
        flash.wipe(0)
        flash.off()
        self.assertEqual((drive.reads(), drive.is_on(), drive.steps()), ((1, None, None), True, 1))
        later = drive.flash()
        drive.do(("write", 0, 2))
        self.assertEqual(scan(PLAN, later), (((0, 0), None, None), 2, (0, 1)))

    def test_twins_go_on_by_themselves(self):
        drive = driven(PLAN, [("write", 0, 1)])
        other = drive.twin()
        other.do(("write", 0, 2))
        other.off()
        self.assertEqual((drive.reads(), drive.is_on(), drive.steps()), ((1, None, None), True, 1))
        drive.do(("write", 1, 3))
        self.assertEqual((other.reads(), other.is_on(), other.steps()), ((2, None, None), False, 2))

    def test_power_of_a_twin_is_as_it_is(self):
        drive = driven(PLAN, [("write", 0, 1)])
        drive.off()
        other = drive.twin()
        self.assertIs(other.is_on(), False)
        self.assertIs(drive.is_on(), False)
        other.on()
        self.assertIs(drive.is_on(), False)
        self.assertIs(other.twin().is_on(), True)
        self.assertIs(Drive(PLAN, flash=drive.flash()).is_on(), True)

    def test_twins_and_drives_on_the_flash_go_on_as_it_would_have(self):
        for seed in range(30):
            pick = choices(2000, seed)
            plan = pick([PLAN, (3, 6, 1, False, True), (5, 3, 4, True, False), (6, 4, 11, True, True)])
            drive = Drive(plan, scattered_weather(pick, 20, ["cut", "bad", "bit"], 60))
            for _ in range(12):
                answered(drive, scattered_order(pick, plan))
                drive.on()
            others = [drive.twin(), Drive(plan, flash=drive.flash()), drive.twin().twin()]
            self.assertEqual([other.plan() for other in others], [plan] * 3)
            for _ in range(12):
                order = scattered_order(pick, plan)
                told = answered(drive, order)
                drive.on()
                for other in others:
                    self.assertEqual(answered(other, order), told)
                    other.on()
                    self.assertEqual(state_of(other.flash()), state_of(drive.flash()))


if __name__ == "__main__":
    unittest.main()
