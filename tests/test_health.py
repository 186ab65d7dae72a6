"""Points 90 and 91: health, and how many steps orders take."""

import unittest

from flashkeep.drives import Drive
from flashkeep.errors import NoFlash, NoOrder, NoPlan
from flashkeep.flash import Flash
from flashkeep.health import health, most, takes
from flashkeep.pages import fields_in
from helper import (
    FAR_NUMBERS, OTHER_KINDS, Look, answered, assert_refused, built, choices, driven, scattered_flashes,
    scattered_order, scattered_weather, state_of,
)

PLAN = (4, 4, 3, True, True)
NAMES = ["good", "failed", "blank", "torn", "read", "spoilt", "mended", "dead", "least", "greatest", "free"]
BLANK = dict(zip(NAMES, [4, 0, 16, 0, 0, 0, 0, 0, 0, 0, 16]))
CUT, BAD = ("cut",), ("bad",)
THREE_BLOCKS = [("write", 0, 5), ("group", ((1, 7), (2, 8)))] + [("write", 0, data) for data in range(10, 18)]


def health_by_words(plan, flash):
    look = Look(plan, flash)
    cells = list(look.cells.values())
    words = [cell[1] for cell in cells if cell[0] == "word"]
    states = [fields_in(word, plan[3])[0] for word in words]
    least, greatest = look.worn() or (None, None)
    read = len(look.read)
    counts = [len(look.good), plan[0] - len(look.good), cells.count(("blank",)), cells.count(("torn",)), read]
    counts += [len(words) - read, states.count("mended"), read - len([at for at in look.newest if at])]
    return dict(zip(NAMES, [*counts, least, greatest, look.free()]))


class HealthTest(unittest.TestCase):
    def assert_health(self, deeds, plan=PLAN, **changed):
        """It is that of a blank flash but for what is told."""
        flash = built(plan, deeds)
        told = health(plan, flash)
        self.assertEqual(told, {**BLANK, **changed}, deeds)
        self.assertIs(type(told), dict)

    def test_a_blank_flash(self):
        self.assert_health([])

    def test_pages_that_are_read(self):
        deeds = [("put", 0, ("write", 0, 1, 0, 5)), ("put", 0, ("trim", 1, 2, 0, 0))]
        self.assert_health(deeds, blank=14, read=2, free=14)
        self.assert_health(deeds + [("put", 0, ("write", 0, 3, 0, 5))], blank=13, read=3, dead=1, free=13)

    def test_pages_that_are_dead(self):
        # A member without a commit, a commit, and a place that is none of the plan's are read, and are no newest pages.
        rows = [("member", 0, 1, 7, 5), ("commit", 0, 2, 8, 0), ("write", 3, 3, 0, 0)]
        self.assert_health([("put", 1, row) for row in rows], blank=13, read=3, dead=3, free=13)
        rows = [("member", 0, 1, 8, 5), ("commit", 0, 2, 8, 0)]
        self.assert_health([("put", 1, row) for row in rows], blank=14, read=2, dead=1, free=14)

    def test_mended_and_spoilt_pages(self):
        page = ("write", 0, 1, 0, 5)
        self.assert_health([("put", 0, page, 9)], blank=15, read=1, mended=1, free=15)
        self.assert_health([("put", 0, page, 9), ("put", 0, page)], blank=14, read=2, mended=1, dead=1, free=14)
        self.assert_health([("put", 0, page, 9, 10)], blank=15, spoilt=1, free=15)

    def test_without_seals_nothing_is_mended(self):
        plan = (4, 4, 3, False, True)
        page = ("write", 0, 1, 0, 5)
        self.assert_health([("put", 0, page, 1)], plan, blank=15, read=1, free=15)
        self.assert_health([("put", 0, page, 40)], plan, blank=15, spoilt=1, free=15)
        # A write with a group is that of no fields.
        self.assert_health([("put", 0, page, 7)], plan, blank=15, spoilt=1, free=15)

    def test_torn_pages(self):
        self.assert_health([("tear", 2)], blank=15, torn=1, free=15)
        self.assert_health([("tear all", 2)], blank=12, torn=4, free=12)

    def test_failed_blocks(self):
        self.assert_health([("fail", 2)], good=3, failed=1, free=12)
        deeds = [("put", 2, ("write", 0, 1, 0, 5)), ("tear", 2), ("fail", 2)]
        self.assert_health(deeds, good=3, failed=1, blank=14, torn=1, read=1, free=12)

    def test_wipes(self):
        deeds = [("wipe", 0)] * 3 + [("wipe", 1)] + [("wipe", 2)] * 2 + [("wipe", 3)] * 5
        self.assert_health(deeds, least=1, greatest=5)
        self.assert_health(deeds + [("fail", 3)], least=1, greatest=3, good=3, failed=1, free=12)
        failed = [("fail", block) for block in range(4)]
        self.assert_health(deeds + failed, least=None, greatest=None, good=0, failed=4, free=0)

    def test_all_at_once(self):
        deeds = [("wipe", 3), ("put", 0, ("write", 0, 1, 0, 5)), ("put", 0, ("write", 0, 2, 0, 6), 30), ("tear", 0)]
        deeds += [("put", 0, ("trim", 1, 3, 0, 0), 1, 2), ("put", 1, ("member", 2, 4, 4, 9))]
        deeds += [("put", 1, ("commit", 0, 5, 4, 0), 8), ("fail", 2)]
        self.assert_health(
            deeds, good=3, failed=1, blank=10, torn=1, read=4, spoilt=1, mended=2, dead=2, least=0, greatest=1, free=6,
        )

    def test_by_the_words_of_the_point(self):
        for plan, flash in scattered_flashes(150):
            before = state_of(flash)
            due = health_by_words(plan, flash)
            self.assertEqual(health(plan, flash), due)
            self.assertEqual(sum(due[name] for name in ["blank", "torn", "read", "spoilt"]), plan[0] * plan[1])
            flash.off()
            self.assertEqual(health(flash=flash, plan=plan), due)
            flash.on()
            self.assertEqual(state_of(flash), before)

    def test_a_new_dict_each_time(self):
        flash = Flash(4, 4)
        told = health(PLAN, flash)
        told["good"] = 9
        told.pop("free")
        self.assertEqual(health(PLAN, flash), BLANK)

    def test_no_plan_then_no_flash(self):
        for plan in [*OTHER_KINDS, *FAR_NUMBERS, list(PLAN), (4, 4, 4, True, True)]:
            assert_refused(self, NoPlan, health, plan, Flash(4, 4))
            assert_refused(self, NoPlan, health, flash=None, plan=plan)
        for flash in [*OTHER_KINDS, *FAR_NUMBERS, Flash(3, 4), Flash(4, 5), Drive(PLAN), Flash]:
            assert_refused(self, NoFlash, health, PLAN, flash)


class TakesTest(unittest.TestCase):
    def assert_takes(self, due, drive, order):
        before = state_of(drive.flash())
        self.assertEqual(takes(drive, order), due)
        self.assertEqual(takes(order=order, drive=drive), due)
        self.assertEqual(state_of(drive.flash()), before)

    def test_each_kind_of_order(self):
        drive = driven(PLAN, [("write", 0, 1), ("write", 1, 2)], ((0, ("bit", 5)),))
        orders = [(("read", 0), 1), (("read", 2), 0), (("write", 2, 5), 1), (("trim", 0), 1), (("trim", 2), 0)]
        orders += [(("group", ((0, 1), (1, 2), (2, 3))), 4), (("group", ((0, 1),)), 2), (("mend",), 4)]
        for order, steps in orders:
            self.assert_takes((steps, None), drive, order)

    def test_a_block_that_is_collected(self):
        self.assert_takes((6, None), driven(PLAN, THREE_BLOCKS), ("write", 0, 1))

    def test_words_of_refusals(self):
        self.assert_takes((1, "off"), Drive(PLAN, ((0, CUT),)), ("write", 0, 1))
        self.assert_takes((4, "worn"), Drive(PLAN, tuple((step, BAD) for step in range(4))), ("write", 0, 1))
        failed = Drive(PLAN, flash=built(PLAN, [("fail", block) for block in range(4)]))
        self.assert_takes((0, "room"), failed, ("write", 0, 1))
        over = Drive(PLAN, flash=built(PLAN, [("put", 0, ("write", 0, 16000, 0, 1))]))
        self.assert_takes((0, "over"), over, ("write", 0, 1))
        spoilt = driven(PLAN, [("write", 0, 5)], ((0, ("bit", 3)), (1, ("bit", 40))))
        self.assert_takes((1, "spoilt"), spoilt, ("read", 0))

    def test_power_off(self):
        drive = driven(PLAN, [("write", 0, 1)])
        drive.off()
        for order in [("read", 0), ("read", 1), ("write", 0, 1), ("mend",)]:
            self.assert_takes((0, "off"), drive, order)
        self.assertIs(drive.is_on(), False)

    def test_no_order(self):
        drive = Drive(PLAN)
        for order in [*OTHER_KINDS, *FAR_NUMBERS, ("read", 3), ("fence",), ["mend"], ("write", 0, 64)]:
            assert_refused(self, NoOrder, takes, drive, order)
        drive.off()
        assert_refused(self, NoOrder, takes, drive, ("read", 3))

    def test_as_a_twin_takes_them(self):
        for seed in range(40):
            pick = choices(3000, seed)
            plan = pick([PLAN, (3, 6, 1, False, True), (5, 3, 4, True, False), (6, 4, 11, True, True)])
            drive = Drive(plan, scattered_weather(pick, 30, ["cut", "bad", "bit"], 80))
            for _ in range(20):
                order = scattered_order(pick, plan)
                told, first = takes(drive, order), drive.steps()
                answer = answered(drive, order)
                self.assertEqual(told, (drive.steps() - first, answer[1] if answer[0] == "no" else None))
                drive.on()


class MostTest(unittest.TestCase):
    def assert_most(self, due, drive):
        before = state_of(drive.flash())
        self.assertEqual(most(drive), due)
        self.assertEqual(most(drive=drive), due)
        self.assertEqual(state_of(drive.flash()), before)

    def test_a_blank_flash(self):
        self.assert_most((4, ("group", ((0, 0), (1, 0), (2, 0)))), Drive(PLAN))
        self.assert_most((2, ("group", ((0, 0),))), Drive((3, 6, 1, True, True)))
        self.assert_most((5, ("group", tuple((place, 0) for place in range(4)))), Drive((8, 8, 16, True, True)))
        self.assert_most((4, ("group", tuple((place, 0) for place in range(4)))), Drive((5, 3, 4, True, False)))

    def test_the_first_of_several(self):
        # Without commits a group of one place takes no more than a write.
        self.assert_most((1, ("write", 0, 0)), Drive((3, 6, 1, True, False)))
        self.assert_most((1, ("read", 0)), driven((3, 6, 1, True, False), [("write", 0, 1)]))
        drive = driven(PLAN, [("write", 0, 1)])
        drive.off()
        self.assert_most((0, ("read", 0)), drive)

    def test_an_order_that_is_refused_counts_by_its_steps(self):
        # Power goes at the second step of the group, and at none of the other orders.
        self.assert_most((2, ("group", ((0, 0), (1, 0), (2, 0)))), Drive(PLAN, ((1, CUT),)))
        self.assert_most((1, ("write", 0, 0)), Drive(PLAN, ((0, CUT),)))
        self.assert_most((4, ("write", 0, 0)), Drive(PLAN, tuple((step, BAD) for step in range(4))))

    def test_an_order_of_a_later_place(self):
        # There is no room for a page: only the place with a page takes a step, as it is read.
        failed = built(PLAN, [("put", 0, ("write", 1, 1, 0, 9))] + [("fail", block) for block in range(4)])
        self.assert_most((1, ("read", 1)), Drive(PLAN, flash=failed))

    def test_by_all_orders_that_are_listed(self):
        for seed in range(30):
            pick = choices(3000, seed)
            plan = pick([PLAN, (3, 6, 1, False, True), (5, 3, 4, True, False), (6, 4, 11, True, True)])
            drive = Drive(plan, scattered_weather(pick, 30, ["cut", "bad", "bit"], 80))
            for _ in range(pick(range(20))):
                answered(drive, scattered_order(pick, plan))
                drive.on()
            orders = []
            for place in range(plan[2]):
                orders += [("read", place), ("write", place, 0), ("trim", place)]
            orders.append(("group", tuple((place, 0) for place in range(plan[2]))[:4]))
            rows = [(-takes(drive, order)[0], at) for at, order in enumerate(orders)]
            self.assert_most((-min(rows)[0], orders[min(rows)[1]]), drive)


if __name__ == "__main__":
    unittest.main()
