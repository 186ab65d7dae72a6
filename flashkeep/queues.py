"""A queue of orders: reads go ahead of others where nothing that waits ahead of them has their place."""

from flashkeep.errors import NoNumber, NoOrder, NoRoom, Off, Over, Spoilt, Worn
from flashkeep.drives import is_order
from flashkeep.looks import is_within
from flashkeep.orders import places_in

FENCE = ("fence",)


def answer_of(drive, order):
    """Do an order, and tell ("told", what was told), or ("no", word) where it was refused."""
    try:
        return ("told", drive.do(order))
    except Off:
        return ("no", "off")
    except NoRoom:
        return ("no", "room")
    except Over:
        return ("no", "over")
    except Worn:
        return ("no", "worn")
    except Spoilt:
        return ("no", "spoilt")


class Queue:
    """A queue on a drive, which it turns as it goes."""

    def __init__(self, drive):
        self.driven = drive
        self.asked = []
        self.answers = []

    def ask(self, order):
        """Queue an order, or a fence, and tell its number."""
        if order != FENCE and (not is_order(self.driven.plan(), order) or order == ("mend",)):
            raise NoOrder("queued are orders of the drive's plan, but no mend, and fences")
        self.asked.append(order)
        self.answers.append(None)
        return len(self.asked) - 1

    def ready(self):
        """Tell the numbers, rising, of the orders that nothing that waits ahead keeps back."""
        told = []
        ahead = {}
        for number in self.waiting():
            order = self.asked[number]
            if order == FENCE:
                break
            places = places_in(order)
            if not any([place in ahead for place in places]):
                told.append(number)
            for place in places:
                ahead[place] = True
        return told

    def next_number(self):
        """Tell the number of what is done next, or None where none waits."""
        numbers = self.ready()
        if not numbers:
            # Only a fence keeps back all others, and that one comes first then.
            return min(self.waiting(), default=None)
        reads = [number for number in numbers if self.asked[number][0] == "read"]
        return reads[0] if reads else numbers[0]

    def go(self):
        """Do one order that waits, and tell its number, None where none waits."""
        number = self.next_number()
        if number is None:
            return None
        order = self.asked[number]
        self.answers[number] = ("told", None) if order == FENCE else answer_of(self.driven, order)
        return number

    def answer(self, number):
        """Tell the answer to an order, None as long as it waits."""
        if not is_within(number, 0, len(self.asked) - 1):
            raise NoNumber("no order was asked by this number")
        return self.answers[number]

    def waiting(self):
        """Tell the numbers of the orders that wait, rising."""
        return [number for number, told in enumerate(self.answers) if told is None]

    def drop(self):
        """Let all that wait be gone."""
        for number in self.waiting():
            self.answers[number] = ("no", "gone")
