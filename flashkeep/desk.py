"""A desk: a drive and a queue that are told lines, and answer with texts."""

from flashkeep.drives import Drive
from flashkeep.errors import NoLine
from flashkeep.papers import numbers_in, paper_of
from flashkeep.queues import FENCE, Queue
from flashkeep.scans import free
from flashkeep.texts import number_in, order_in
from flashkeep.wear import worn


def one_text(number):
    """Tell the text of a number, or of None."""
    return "none" if number is None else str(number)


def told_text(order, told):
    """Tell the text of what an order, or a fence, told."""
    if order[0] == "read":
        return one_text(told)
    if order[0] == "mend":
        return " ".join([str(place) for place in told]) or "none"
    return "ok"


def answer_text(order, answer):
    """Tell the text of an answer that a queue gives to an order."""
    if answer is None:
        return "waits"
    word, told = answer
    return f"no {told}" if word == "no" else told_text(order, told)


def paper_text(paper):
    """Tell the text of a paper."""
    return " ".join([paper[0]] + [str(number) for number in numbers_in(paper)])


def go_text(drive, queue):
    """Go on by one order of the queue, and tell its number."""
    return one_text(queue.go())


def drop_text(drive, queue):
    """Let all that waits be gone."""
    queue.drop()
    return "ok"


def on_text(drive, queue):
    """Put power on."""
    drive.on()
    return "ok"


def off_text(drive, queue):
    """Put power off."""
    drive.off()
    return "ok"


def reads_text(drive, queue):
    """Tell what each place reads."""
    return " ".join([one_text(data) for data in drive.reads()])


def steps_text(drive, queue):
    """Tell how many steps there were."""
    return str(drive.steps())


def free_text(drive, queue):
    """Tell how many pages can be written."""
    return str(free(drive.plan(), drive.flash()))


def worn_text(drive, queue):
    """Tell the fewest and the most wipes of good blocks."""
    counts = worn(drive.flash())
    return "none" if counts is None else f"{counts[0]} {counts[1]}"


def power_text(drive, queue):
    """Tell whether power is on."""
    return "on" if drive.is_on() else "off"


# The lines of one word, but for orders.
WORDS = {
    "go": go_text,
    "drop": drop_text,
    "on": on_text,
    "off": off_text,
    "reads": reads_text,
    "steps": steps_text,
    "free": free_text,
    "worn": worn_text,
    "power": power_text,
}


class Desk:
    """A desk with a drive of a plan and a weather, and a queue on it."""

    def __init__(self, plan, weather=()):
        self.drive = Drive(plan, weather)
        self.queue = Queue(self.drive)

    def ask_text(self, text):
        """Queue an order, or a fence, and tell its number; None where the text writes neither."""
        order = FENCE if text == "fence" else order_in(text)
        if order is None or order == ("mend",):
            return None
        return str(self.queue.ask(order))

    def numbered_text(self, word, number):
        """Tell an answer or a paper by its number; None where there is no such line."""
        if word == "answer":
            answer = self.queue.answer(number)
            return answer_text(self.queue.asked[number], answer)
        if word == "paper":
            return paper_text(paper_of(self.drive.plan(), self.drive.flash(), number))
        return None

    def line_text(self, line):
        """Tell what a line is answered; None where there is no such line."""
        if line in WORDS:
            action = WORDS[line]
            return action(self.drive, self.queue)
        order = order_in(line)
        if order is not None:
            return told_text(order, self.drive.do(order))
        word, blank, rest = line.partition(" ")
        if word == "ask":
            return self.ask_text(rest)
        number = number_in(rest)
        return None if number is None else self.numbered_text(word, number)

    def say(self, line):
        """Tell what is answered to a line."""
        told = self.line_text(line) if isinstance(line, str) else None
        if told is None:
            raise NoLine("there is no such line")
        return told
