"""Point 111: the desk, line by line, beside a drive and a queue kept by the test."""

import unittest

from flashkeep.desk import Desk
from flashkeep.drives import Drive
from flashkeep.errors import (
    FlashError, NoLine, NoNumber, NoOrder, NoPlace, NoPlan, NoRoom, NoWeather, Off, Over, Spoilt, Worn,
)
from flashkeep.papers import paper_of
from flashkeep.queues import Queue
from flashkeep.scans import free
from flashkeep.texts import order_text
from flashkeep.wear import worn
from helper import (
    FAR_NUMBERS, OTHER_KINDS, answered, assert_refused, choices, put_down, scattered_order, scattered_plan,
    scattered_weather, state_of,
)

PLAN = (4, 4, 3, True, True)
CUT, BAD = ("cut",), ("bad",)
QUESTIONS = ["reads", "steps", "free", "worn", "power", "paper 0", "paper 1", "paper 2"]
NO_LINES = [
    *OTHER_KINDS, *FAR_NUMBERS, 0, ("read", 0), ["go"], b"go", "", " ", "\n",
    "GO", "Go", "go ", " go", "go 0", "go\n", "on 1", "of", "offf", "drop 0",
    "ask", "ask ", "ask mend", "ask go", "ask fence ", "ask  fence", "ask fence 0", "ask ask read 0", "ask read",
    "ask read 0 ", "ask  read 0", "ask read 16", "ask group", "ask write 0", "ask reads", "fence",
    "answer", "answer ", "answer x", "answer 00", "answer 01", "answer -1", "answer +1", "answer 1 ", "answer  1",
    "answer 1 2", "answer 1234567890", "answer 0x1", "answer \u0663", "answers 0",
    "paper", "paper x", "paper 01", "paper -1", "paper 1 ", "paper 1 1", "paper 1234567890", "paper \uff11", "papers 0",
    "reads 0", "steps ", "free 1", "worn 0", "power on", "power off",
    "read", "read 16", "read 00", "read  0", "read 0 ", "read 999999999", "read 1000000000", "read \u0663",
    "write 0", "write 0 64", "write 16 0", "write 0 1 2", "trim", "trim 16", "mend 0", "MEND",
    "group", "group 0", "group 0 1 0 2", "group 0 1 2",
    "none", "ok", "waits", "health", "plan", "twin", "flash", "0", "3", "quit",
]


def one(thing):
    return "none" if thing is None else str(thing)


def text_of(order, told):
    """What a desk answers to an order, by what a drive tells."""
    if order[0] == "read":
        return one(told)
    if order[0] == "mend":
        return " ".join(str(place) for place in told) if told else "none"
    return "ok"


class PlainDesk:
    """A desk by the words of point 111, on a drive and a queue."""

    def __init__(self, plan, weather=()):
        self.drive = Drive(plan, weather)
        self.queue = Queue(self.drive)
        self.orders = []

    def do(self, order):
        return text_of(order, self.drive.do(order))

    def ask(self, order):
        number = self.queue.ask(order)
        self.orders.append(order)
        return str(number)

    def answer(self, number):
        told = self.queue.answer(number)
        if told is None:
            return "waits"
        return "no " + told[1] if told[0] == "no" else text_of(self.orders[number], told[1])

    def paper(self, place):
        paper = paper_of(self.drive.plan(), self.drive.flash(), place)
        if paper == ("none",):
            return "none"
        return f"page {paper[1]} {paper[2]}" + (f" {paper[3][0]} {paper[3][1]}" if paper[3] else "")

    def question(self, word):
        counts = worn(self.drive.flash())
        return {
            "reads": " ".join(one(data) for data in self.drive.reads()),
            "steps": str(self.drive.steps()),
            "free": str(free(self.drive.plan(), self.drive.flash())),
            "worn": "none" if counts is None else f"{counts[0]} {counts[1]}",
            "power": "on" if self.drive.is_on() else "off",
        }[word]


def said(call, *args):
    """What is answered, or the class of the refusal."""
    try:
        return call(*args)
    except FlashError as error:
        return type(error)


class DeskTest(unittest.TestCase):
    def assert_said(self, desk, *rows):
        for line, due in rows:
            told = desk.say(line)
            self.assertEqual(told, due, line)
            self.assertIs(type(told), str)

    def assert_refused_line(self, error, desk, line):
        before = [desk.say(question) for question in QUESTIONS]
        assert_refused(self, error, desk.say, line)
        assert_refused(self, error, desk.say, line=line)
        self.assertEqual([desk.say(question) for question in QUESTIONS], before)

    def test_orders(self):
        self.assert_said(
            Desk(PLAN), ("read 0", "none"), ("write 0 7", "ok"), ("read 0", "7"), ("group 1 0 2 63", "ok"),
            ("read 1", "0"), ("read 2", "63"), ("trim 0", "ok"), ("read 0", "none"), ("trim 0", "ok"),
            ("mend", "none"),
        )

    def test_mend(self):
        weather = ((0, ("bit", 4)), (2, ("bit", 5)), (9, ("bit", 6)))
        desk = Desk(PLAN, weather)
        self.assert_said(desk, ("write 0 7", "ok"), ("write 1 8", "ok"), ("write 2 9", "ok"), ("mend", "0 2"))
        self.assert_said(desk, ("steps", "10"), ("mend", "2"), ("mend", "none"), ("reads", "7 8 9"))

    def test_asked_and_gone_through(self):
        self.assert_said(
            Desk(PLAN), ("go", "none"), ("ask write 0 7", "0"), ("ask read 0", "1"), ("ask fence", "2"),
            ("ask read 1", "3"), ("ask group 1 5 2 6", "4"), ("ask trim 0", "5"), ("answer 0", "waits"),
            ("answer 2", "waits"), ("go", "0"), ("answer 0", "ok"), ("go", "1"), ("answer 1", "7"), ("go", "2"),
            ("answer 2", "ok"), ("go", "3"), ("answer 3", "none"), ("go", "4"), ("answer 4", "ok"), ("go", "5"),
            ("answer 5", "ok"), ("go", "none"), ("reads", "none 5 6"),
        )

    def test_drop(self):
        desk = Desk(PLAN)
        self.assert_said(desk, ("drop", "ok"), ("ask write 0 7", "0"), ("ask fence", "1"), ("ask read 1", "2"))
        self.assert_said(desk, ("drop", "ok"), *[(f"answer {number}", "no gone") for number in range(3)])
        self.assert_said(desk, ("go", "none"), ("ask read 0", "3"), ("go", "3"), ("answer 3", "none"))

    def test_power(self):
        desk = Desk(PLAN)
        self.assert_said(
            desk, ("power", "on"), ("off", "ok"), ("power", "off"), ("off", "ok"), ("ask read 0", "0"), ("go", "0"),
            ("answer 0", "no off"), ("on", "ok"), ("power", "on"), ("on", "ok"), ("read 0", "none"),
        )

    def test_answers_of_refused_orders(self):
        desk = Desk(PLAN, ((0, CUT), (1, BAD), (2, BAD), (3, BAD), (4, BAD)))
        self.assert_said(desk, ("ask write 0 7", "0"), ("go", "0"), ("answer 0", "no off"), ("on", "ok"))
        self.assert_said(desk, ("ask write 0 7", "1"), ("go", "1"), ("answer 1", "no worn"))
        self.assert_said(desk, ("ask write 0 7", "2"), ("go", "2"), ("answer 2", "no room"))
        self.assert_said(desk, ("worn", "none"), ("free", "0"))
        desk = Desk(PLAN, ((0, ("bit", 3)), (1, ("bit", 40))))
        self.assert_said(desk, ("write 0 7", "ok"), ("ask read 0", "0"), ("go", "0"), ("answer 0", "no spoilt"))

    def test_questions(self):
        desk = Desk(PLAN)
        self.assert_said(
            desk, ("reads", "none none none"), ("steps", "0"), ("free", "16"), ("worn", "0 0"), ("power", "on"),
            ("paper 0", "none"), ("write 0 7", "ok"), ("paper 0", "page 0 0"), ("group 2 5", "ok"),
            ("paper 2", "page 0 1 0 2"), ("trim 0", "ok"), ("paper 0", "page 0 3"), ("reads", "none none 5"),
            ("steps", "4"), ("free", "12"), ("off", "ok"), ("reads", "none none 5"), ("paper 2", "page 0 1 0 2"),
        )

    def test_worn(self):
        desk = Desk((4, 4, 1, True, True))
        for data in range(14):
            desk.say(f"write 0 {data}")
        self.assert_said(desk, ("worn", "0 1"), ("reads", "13"))

    def test_no_line(self):
        desk = Desk(PLAN)
        desk.say("write 0 7")
        for line in NO_LINES:
            self.assert_refused_line(NoLine, desk, line)
        self.assert_said(desk, ("steps", "1"), ("ask read 0", "0"))

    def test_no_line_ahead_of_all_else(self):
        desk = Desk(PLAN)
        desk.say("off")
        for line in NO_LINES:
            assert_refused(self, NoLine, desk.say, line)

    def test_no_order_of_the_plan(self):
        desk = Desk(PLAN)
        for line in ["read 3", "read 15", "write 3 0", "trim 15", "group 0 1 3 2"]:
            self.assert_refused_line(NoOrder, desk, line)
            self.assert_refused_line(NoOrder, desk, "ask " + line)
        desk.say("off")
        self.assert_refused_line(NoOrder, desk, "read 3")
        self.assert_said(desk, ("ask read 2", "0"))

    def test_no_number(self):
        desk = Desk(PLAN)
        for line in ["answer 0", "answer 1", "answer 999999999"]:
            self.assert_refused_line(NoNumber, desk, line)
        desk.say("ask read 0")
        self.assert_said(desk, ("answer 0", "waits"))
        self.assert_refused_line(NoNumber, desk, "answer 1")

    def test_no_place(self):
        desk = Desk(PLAN)
        for line in ["paper 3", "paper 16", "paper 999999999"]:
            self.assert_refused_line(NoPlace, desk, line)
        self.assertEqual(Desk((8, 8, 16, True, True)).say("paper 15"), "none")

    def test_off(self):
        desk = Desk(PLAN)
        desk.say("off")
        for line in ["read 0", "write 0 1", "trim 0", "group 0 1", "mend"]:
            self.assert_refused_line(Off, desk, line)
        self.assert_said(desk, ("steps", "0"))

    def test_refused_as_the_drive_refuses(self):
        desk = Desk(PLAN, ((0, CUT), (1, BAD), (2, BAD), (3, BAD), (4, BAD)))
        for error in (Off, Worn, NoRoom):
            assert_refused(self, error, desk.say, "write 0 7")
            desk.say("on")
        self.assert_said(desk, ("steps", "5"), ("reads", "none none none"), ("read 0", "none"), ("mend", "none"))
        desk = Desk(PLAN, ((0, ("bit", 3)), (1, ("bit", 40))))
        desk.say("write 0 7")
        assert_refused(self, Spoilt, desk.say, "read 0")
        self.assert_said(desk, ("steps", "2"), ("read 0", "none"))

    def test_over(self):
        # Without seals the turned bits of the numbers make 8192 more, then 4096, and so on to 256: above 16,000.
        desk = Desk((4, 4, 3, False, True), tuple((step, ("bit", 33 - step)) for step in range(6)))
        for _ in range(6):
            desk.say("write 0 7")
        assert_refused(self, Over, desk.say, "write 0 7")
        self.assert_said(desk, ("ask write 0 7", "0"), ("go", "0"), ("answer 0", "no over"))

    def test_made(self):
        for plan in [*OTHER_KINDS, *FAR_NUMBERS, list(PLAN), (4, 4, 4, True, True)]:
            assert_refused(self, NoPlan, Desk, plan)
            assert_refused(self, NoPlan, Desk, plan, None)
        for weather in [*[thing for thing in OTHER_KINDS if thing != ()], *FAR_NUMBERS, [(0, CUT)], ((10000, CUT),)]:
            assert_refused(self, NoWeather, Desk, PLAN, weather)
            assert_refused(self, NoWeather, Desk, weather=weather, plan=PLAN)
        self.assertEqual(Desk(plan=PLAN).say(line="steps"), "0")
        assert_refused(self, Off, Desk(weather=((0, CUT),), plan=PLAN).say, "write 0 1")

    def test_two_desks_go_on_by_themselves(self):
        desks = [Desk(PLAN), Desk(PLAN)]
        self.assert_said(desks[0], ("write 0 7", "ok"), ("ask read 0", "0"))
        self.assert_said(desks[1], ("read 0", "none"), ("steps", "0"), ("go", "none"), ("ask read 0", "0"))

    def test_say_stands_in_the_class(self):
        self.assertIn("say", vars(Desk))


class ScatteredTest(unittest.TestCase):
    def deed(self, pick, plan, desk, plain):
        """What a desk says to a line, and what is due."""
        questions = ["reads", "steps", "free", "worn", "power"]
        kind = pick(["do"] * 5 + ["ask"] * 4 + ["go"] * 4 + ["answer", "drop", "on", "off", "paper"] + questions)
        number = pick(range(20))
        if kind == "do":
            order = scattered_order(pick, plan)
            return said(desk.say, order_text(order)), said(plain.do, order)
        if kind == "ask":
            word = pick(["read", "write", "group", "trim", "fence"])
            order = ("fence",) if word == "fence" else scattered_order(pick, plan, [word])
            text = "fence" if word == "fence" else order_text(order)
            return said(desk.say, "ask " + text), said(plain.ask, order)
        if kind in ("answer", "paper"):
            call = {"answer": plain.answer, "paper": plain.paper}[kind]
            return said(desk.say, f"{kind} {number}"), said(call, number)
        if kind == "go":
            return said(desk.say, "go"), one(plain.queue.go())
        if kind in ("drop", "on", "off"):
            {"drop": plain.queue.drop, "on": plain.drive.on, "off": plain.drive.off}[kind]()
            return said(desk.say, kind), "ok"
        return said(desk.say, kind), plain.question(kind)

    def test_beside_a_drive_and_a_queue(self):
        seen = {}
        for seed in range(60):
            pick = choices(6000, seed)
            plan = scattered_plan(pick)
            weather = scattered_weather(pick, 25, ["cut", "bad", "bit"], 60)
            desk, plain = Desk(plan, weather), PlainDesk(plan, weather)
            for _ in range(60):
                told, due = self.deed(pick, plan, desk, plain)
                self.assertEqual(told, due)
                seen[told if isinstance(told, type) else "told"] = True
                if not plain.drive.is_on() and pick([True, False]):
                    plain.drive.on()
                    desk.say("on")
            for word in QUESTIONS[:5]:
                self.assertEqual(desk.say(word), plain.question(word))
        self.assertLessEqual({Off, NoRoom, NoNumber, NoPlace, "told"}, set(seen))


class WholeTest(unittest.TestCase):
    """Point 3, told to a desk."""

    def runs(self, many):
        for seed in range(many):
            pick = choices(3000, seed)
            plan = (*pick([(3, 6, 1), (4, 4, 3), (5, 3, 4), (8, 2, 7), (6, 4, 11)]), True, True)
            yield plan, scattered_weather(pick, 40, ["cut"] * 8 + ["bad"], 150), pick

    def test_reads_tells_what_the_orders_bring_that_were_answered_ok(self):
        for plan, weather, pick in self.runs(30):
            desk = Desk(plan, weather)
            row = [None] * plan[2]
            for _ in range(40):
                order = scattered_order(pick, plan)
                told = said(desk.say, order_text(order))
                if told == "ok":
                    row = put_down(row, order)
                if told == Off:
                    self.assertEqual((desk.say("power"), desk.say("on")), ("off", "ok"))
                self.assertEqual(desk.say("reads"), " ".join(one(data) for data in row))

    def test_asked_and_gone_through_it_answers_alike(self):
        for plan, _, pick in self.runs(20):
            desk, other = Desk(plan), Drive(plan)
            orders = [scattered_order(pick, plan, ["read", "write", "trim", "group"]) for _ in range(20)]
            numbers = [desk.say("ask " + order_text(order)) for order in orders]
            while desk.say("go") != "none":
                pass
            due = [text_of(order, answered(other, order)[1]) for order in orders]
            self.assertEqual([desk.say("answer " + number) for number in numbers], due)
            self.assertEqual(desk.say("reads"), " ".join(one(data) for data in other.reads()))

    def test_asked_and_gone_through_behind_cuts(self):
        # One by one, so that each is done as it was asked: the answers are those of a drive that is told the orders.
        for plan, weather, pick in self.runs(20):
            desk, other = Desk(plan, weather), Drive(plan, weather)
            for number in range(30):
                order = scattered_order(pick, plan, ["read", "write", "trim", "group"])
                desk.say("ask " + order_text(order))
                self.assertEqual(desk.say("go"), str(number))
                word, told = answered(other, order)
                due = "no " + told if word == "no" else text_of(order, told)
                self.assertEqual(desk.say(f"answer {number}"), due)
                self.assertEqual(desk.say("steps"), str(other.steps()))
                other.on()
                desk.say("on")
                self.assertEqual(desk.say("reads"), " ".join(one(data) for data in other.reads()))
            self.assertEqual(state_of(desk.drive.flash()), state_of(other.flash()))


if __name__ == "__main__":
    unittest.main()
