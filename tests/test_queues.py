"""Point 70: a queue on a drive."""

import unittest

from flashkeep.drives import Drive
from flashkeep.errors import NoNumber, NoOrder
from flashkeep.queues import Queue
from helper import FAR_NUMBERS, OTHER_KINDS, answered, assert_refused, built, choices, driven, scattered_order, state_of

PLAN = (4, 4, 3, True, True)
FENCE = ("fence",)
CUT, BAD = ("cut",), ("bad",)


def queue_of(orders, drive=None):
    queue = Queue(drive or Drive(PLAN))
    for order in orders:
        queue.ask(order)
    return queue


def gone_through(queue):
    """The numbers in which order all that waits is done."""
    told = []
    while (number := queue.go()) is not None:
        told.append(number)
    return told


class PlainQueue:
    """Which number point 70 has for the next one, by its words alone."""

    def __init__(self):
        self.orders = {}

    def places(self, order):
        return {place for place, _ in order[1]} if order[0] == "group" else set(order[1:2])

    def is_let(self, number):
        if self.orders[number] == FENCE:
            return False
        ahead = [order for other, order in self.orders.items() if other < number]
        kept = [self.places(order) & self.places(self.orders[number]) for order in ahead]
        return FENCE not in ahead and not any(kept)

    def next(self):
        let = [number for number in self.orders if self.is_let(number)]
        rows = [(self.orders[number][0] != "read", number) for number in let]
        return min(rows)[1] if rows else min(self.orders, default=None)


class AskTest(unittest.TestCase):
    def test_numbers_from_nought(self):
        queue = Queue(Drive(PLAN))
        rows = ((0, 1), (1, 2), (2, 3))
        orders = [("read", 0), ("write", 2, 63), ("trim", 1), ("group", rows), FENCE, FENCE, ("read", 0)]
        self.assertEqual([queue.ask(order) for order in orders], list(range(7)))
        self.assertEqual(queue.waiting(), list(range(7)))

    def test_no_order(self):
        wrong = [*OTHER_KINDS, *FAR_NUMBERS, ("mend",), ("read", 3), ("write", 0, 64), ("trim", -1), ("group", ()),
                 ("group", ((3, 0),)), ["read", 0], ["fence"], ("fence", 0), "fence", ("Fence",), ("read", True)]
        queue = queue_of([("read", 0)])
        for order in wrong:
            assert_refused(self, NoOrder, queue.ask, order)
            assert_refused(self, NoOrder, queue.ask, order=order)
        self.assertEqual(queue.waiting(), [0])
        self.assertEqual(queue.ask(("read", 1)), 1)

    def test_orders_are_those_of_the_drives_plan(self):
        plan = (5, 3, 4, False, False)
        queue = Queue(drive=Drive(plan))
        self.assertEqual(queue.ask(("group", tuple((place, 0) for place in range(4)))), 0)
        assert_refused(self, NoOrder, queue.ask, ("read", 4))

    def test_nothing_is_done_as_it_is_asked(self):
        drive = Drive(PLAN)
        queue_of([("write", 0, 1), ("read", 0)], drive)
        self.assertEqual((drive.steps(), drive.reads()), (0, (None, None, None)))

    def test_without_power_it_is_asked_all_the_same(self):
        drive = Drive(PLAN)
        drive.off()
        self.assertEqual(Queue(drive).ask(("write", 0, 1)), 0)


class GoTest(unittest.TestCase):
    def assert_turn(self, numbers, orders):
        self.assertEqual(gone_through(queue_of(orders)), numbers)

    def test_none_where_none_waits(self):
        queue = Queue(Drive(PLAN))
        self.assertIsNone(queue.go())
        queue.ask(("read", 0))
        self.assertEqual([queue.go(), queue.go(), queue.go()], [0, None, None])

    def test_reads_first_and_of_several_the_least(self):
        self.assert_turn([1, 2, 0], [("write", 0, 1), ("read", 1), ("read", 2)])
        self.assert_turn([2, 0, 1], [("write", 0, 1), ("write", 1, 1), ("read", 2)])
        self.assert_turn([0, 1, 2], [("write", 0, 1), ("trim", 1), ("group", ((2, 1),))])

    def test_an_order_that_waits_ahead_with_the_place(self):
        self.assert_turn([0, 1], [("write", 0, 1), ("read", 0)])
        self.assert_turn([0, 1], [("trim", 0), ("read", 0)])
        self.assert_turn([2, 0, 1], [("write", 0, 1), ("read", 0), ("read", 1)])
        # The second write of place 1 waits ahead of its read, though the first one is done.
        self.assert_turn([0, 1, 2], [("write", 1, 1), ("write", 1, 2), ("read", 1)])

    def test_a_read_keeps_back_a_read_of_its_place(self):
        # Both reads are let one behind the other; the write waits for both.
        self.assert_turn([0, 1, 2], [("read", 0), ("read", 0), ("write", 0, 1)])
        # The read of place 0 behind a write that waits keeps back the next one, too.
        self.assert_turn([0, 1, 2], [("write", 0, 1), ("read", 0), ("read", 0)])

    def test_all_places_of_a_group(self):
        rows = ((2, 1), (0, 2))
        self.assert_turn([1, 0, 2, 3], [("group", rows), ("read", 1), ("read", 0), ("read", 2)])
        self.assert_turn([0, 1, 2], [("write", 0, 1), ("group", rows), ("read", 2)])
        self.assert_turn([0, 1], [("read", 2), ("group", rows)])

    def test_an_order_kept_back_is_passed_by_later_ones(self):
        self.assert_turn([3, 0, 1, 2], [("write", 0, 1), ("write", 0, 2), ("trim", 1), ("read", 2)])

    def test_fences(self):
        self.assert_turn([0, 1, 2], [("write", 0, 1), FENCE, ("read", 1)])
        self.assert_turn([1, 0, 2, 4, 3], [("write", 0, 1), ("read", 1), FENCE, ("write", 2, 1), ("read", 1)])
        self.assert_turn([0, 1], [FENCE, ("read", 1)])
        self.assert_turn([0, 1, 2, 3], [FENCE, FENCE, ("write", 0, 1), FENCE])

    def test_a_fence_takes_no_step_and_needs_no_power(self):
        drive = Drive(PLAN)
        queue = queue_of([FENCE], drive)
        drive.off()
        self.assertEqual((queue.go(), queue.answer(0), drive.steps()), (0, ("told", None), 0))

    def test_asked_meanwhile(self):
        queue = queue_of([("write", 0, 1), ("write", 1, 2)])
        self.assertEqual(queue.go(), 0)
        queue.ask(("read", 0))
        queue.ask(("read", 1))
        self.assertEqual(gone_through(queue), [2, 1, 3])
        self.assertEqual([queue.answer(number) for number in (2, 3)], [("told", 1), ("told", 2)])

    def test_by_the_words_of_the_point(self):
        for seed in range(60):
            pick = choices(3000, seed)
            plan = pick([PLAN, (3, 6, 1, True, True), (5, 3, 4, True, True), (8, 8, 16, True, True)])
            queue, plain, asked = Queue(Drive(plan)), PlainQueue(), 0
            for _ in range(40):
                if pick(["ask", "ask", "go"]) == "ask":
                    kind = pick(["read", "read", "write", "trim", "group", "fence"])
                    order = FENCE if kind == "fence" else scattered_order(pick, plan, [kind])
                    self.assertEqual(queue.ask(order), asked)
                    plain.orders[asked] = order
                    asked += 1
                else:
                    due = plain.next()
                    self.assertEqual(queue.go(), due)
                    plain.orders.pop(due, None)
                self.assertEqual(queue.waiting(), sorted(plain.orders))


class AnswerTest(unittest.TestCase):
    def test_told(self):
        queue = queue_of([("write", 0, 5), ("read", 0), ("trim", 0), FENCE, ("group", ((1, 2),)), ("read", 2)])
        self.assertEqual([queue.answer(number) for number in range(6)], [None] * 6)
        gone_through(queue)
        told = [None, 5, None, None, None, None]
        self.assertEqual([queue.answer(number) for number in range(6)], [("told", what) for what in told])

    def test_none_as_long_as_it_waits(self):
        queue = queue_of([("write", 0, 5), ("write", 1, 5)])
        queue.go()
        self.assertEqual((queue.answer(0), queue.answer(1)), (("told", None), None))

    def test_no_number(self):
        empty, queue = Queue(Drive(PLAN)), queue_of([("read", 0), ("read", 1)])
        for number in [2, 3, -1, -2, *FAR_NUMBERS, *OTHER_KINDS]:
            assert_refused(self, NoNumber, queue.answer, number)
            assert_refused(self, NoNumber, queue.answer, number=number)
        for number in [0, 1, -1, True, None]:
            assert_refused(self, NoNumber, empty.answer, number)
        self.assertIsNone(queue.answer(number=1))

    def assert_no(self, word, drive, order):
        queue = queue_of([order], drive)
        self.assertEqual((queue.go(), queue.answer(0)), (0, ("no", word)))
        self.assertEqual(queue.waiting(), [])

    def test_no_off(self):
        self.assert_no("off", Drive(PLAN, ((0, CUT),)), ("write", 0, 1))
        drive = driven(PLAN, [("write", 0, 1)])
        drive.off()
        for order in [("read", 0), ("read", 1), ("write", 0, 1), ("trim", 1), ("group", ((0, 1),))]:
            self.assert_no("off", drive, order)

    def test_no_room(self):
        drive = Drive(PLAN, flash=built(PLAN, [("fail", block) for block in range(4)]))
        self.assert_no("room", drive, ("write", 0, 1))

    def test_no_over(self):
        drive = Drive(PLAN, flash=built(PLAN, [("put", 0, ("write", 0, 16000, 0, 1))]))
        self.assert_no("over", drive, ("group", ((0, 1),)))

    def test_no_worn(self):
        self.assert_no("worn", Drive(PLAN, tuple((step, BAD) for step in range(4))), ("write", 0, 1))

    def test_no_spoilt(self):
        drive = driven(PLAN, [("write", 0, 5)], ((0, ("bit", 3)), (1, ("bit", 40))))
        self.assert_no("spoilt", drive, ("read", 0))

    def test_power_that_goes_drops_none(self):
        drive = Drive(PLAN, ((1, CUT),))
        queue = queue_of([("write", 0, 1), ("write", 1, 2), ("read", 0), ("write", 2, 3), ("read", 2)], drive)
        self.assertEqual([queue.go(), queue.go()], [0, 2])
        self.assertEqual((queue.answer(2), queue.waiting()), (("no", "off"), [1, 3, 4]))
        self.assertEqual((queue.go(), queue.answer(1)), (1, ("no", "off")))
        drive.on()
        self.assertEqual((queue.go(), queue.answer(3)), (3, ("told", None)))
        self.assertEqual((queue.go(), queue.answer(4)), (4, ("told", 3)))
        self.assertEqual(drive.reads(), (1, None, 3))

    def test_answers_stay(self):
        drive = Drive(PLAN)
        queue = queue_of([("write", 0, 5), ("read", 0)], drive)
        gone_through(queue)
        drive.do(("write", 0, 6))
        queue.drop()
        self.assertEqual((queue.answer(0), queue.answer(1)), (("told", None), ("told", 5)))


class WaitingTest(unittest.TestCase):
    def test_a_new_rising_list(self):
        queue = queue_of([("write", 0, 1), ("read", 1), ("read", 2), FENCE])
        self.assertEqual(queue.waiting(), [0, 1, 2, 3])
        queue.go()
        told = queue.waiting()
        self.assertEqual(told, [0, 2, 3])
        told.clear()
        self.assertEqual(queue.waiting(), [0, 2, 3])
        self.assertIsInstance(queue.waiting(), list)
        self.assertEqual(Queue(Drive(PLAN)).waiting(), [])

    def test_drop(self):
        queue = queue_of([("write", 0, 1), ("read", 1), FENCE, ("write", 1, 1)])
        queue.go()
        self.assertIsNone(queue.drop())
        gone = ("no", "gone")
        self.assertEqual([queue.answer(number) for number in range(4)], [gone, ("told", None), gone, gone])
        self.assertEqual((queue.waiting(), queue.go()), ([], None))
        self.assertEqual(queue.ask(("read", 0)), 4)
        self.assertEqual((queue.go(), queue.answer(4)), (4, ("told", None)))

    def test_drop_where_none_waits(self):
        queue = Queue(Drive(PLAN))
        self.assertIsNone(queue.drop())
        self.assertEqual(queue.waiting(), [])


class DriveTest(unittest.TestCase):
    def test_it_goes_on_that_very_drive(self):
        drive = Drive(PLAN)
        queue = queue_of([("write", 0, 1), ("read", 1)], drive)
        drive.do(("write", 1, 9))
        gone_through(queue)
        self.assertEqual((queue.answer(1), drive.reads()), (("told", 9), (1, 9, None)))

    def test_two_queues_number_by_themselves(self):
        drive = Drive(PLAN)
        queues = [queue_of([("write", 0, 1)], drive), queue_of([("write", 0, 2)], drive)]
        self.assertEqual([queue.go() for queue in queues], [0, 0])
        self.assertEqual(drive.reads(), (2, None, None))

    def test_orders_done_as_they_were_asked_tell_the_same_in_any_weather_that_refuses_none(self):
        for seed in range(20):
            pick = choices(2000, seed)
            weather = ((3, ("bit", pick(range(47)))), (8, BAD))
            drive, other = Drive((6, 4, 11, True, True), weather), Drive((6, 4, 11, True, True), weather)
            orders = [scattered_order(pick, drive.plan(), ["read", "read", "write", "trim"]) for _ in range(15)]
            queue = queue_of(orders, drive)
            gone_through(queue)
            due = [answered(other, order) for order in orders]
            self.assertEqual([queue.answer(number) for number in range(15)], due)
            self.assertEqual(drive.reads(), other.reads())

    def test_methods_stand_in_the_class(self):
        for name in ["ask", "go", "answer", "waiting", "drop"]:
            self.assertIn(name, vars(Queue))

    def test_questions_turn_nothing(self):
        drive = driven(PLAN, [("write", 0, 1)])
        queue = queue_of([("write", 1, 2)], drive)
        before = state_of(drive.flash())
        for _ in range(2):
            self.assertEqual((queue.waiting(), queue.answer(0)), ([0], None))
        self.assertEqual(state_of(drive.flash()), before)


if __name__ == "__main__":
    unittest.main()
