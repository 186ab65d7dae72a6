"""Cuts: what is read behind a cut at each step of some orders, and which faults break what."""

from flashkeep.drives import Drive, is_order
from flashkeep.errors import NoNumber, NoOrders, NoWeather
from flashkeep.flash import LAST_BIT, MOST_FAULTS, is_weather
from flashkeep.looks import is_within
from flashkeep.queues import answer_of
from flashkeep.scans import look_at_plan

MOST_ORDERS = 6


def look_at_orders(plan, orders):
    """Refuse what is no plan, then what is no tuple of none to six orders of it."""
    look_at_plan(plan)
    fits = isinstance(orders, tuple) and len(orders) <= MOST_ORDERS
    if not fits or not all([is_order(plan, order) for order in orders]):
        raise NoOrders("orders are a tuple of none to six orders of the plan")


def look_at_run(plan, orders, weather):
    """Refuse what is no run: a plan, orders of it, and a weather that a cut can be put into."""
    look_at_orders(plan, orders)
    if not is_weather(weather) or len(weather) >= MOST_FAULTS:
        raise NoWeather("the weather of a run is one of at most 39 faults")


def due_behind(row, order):
    """Tell what each place reads behind an order, of what each read ahead of it."""
    told = list(row)
    if order[0] == "write":
        told[order[1]] = order[2]
    elif order[0] == "trim":
        told[order[1]] = None
    elif order[0] == "group":
        for place, data in order[1]:
            told[place] = data
    return tuple(told)


def reads_behind_cut(plan, flash, order, step):
    """Tell what each place reads where power goes at a step of an order that is done on a flash."""
    drive = Drive(plan, flash=flash.with_cut(step))
    answer_of(drive, order)
    return drive.reads()


def tried_at_each_step(plan, orders, weather):
    """Tell rows (step, done, reads, what is due) for a cut at each step that the orders take, and at last for none."""
    drive = Drive(plan, weather)
    done = 0
    row = (None,) * plan[2]
    told = []
    for order in orders:
        # Up to a cut all is as without it, and behind it all orders are refused: only the one it is amid is done anew.
        flash = drive.flash()
        word, answer = answer_of(drive, order)
        for step in range(flash.steps(), drive.steps()):
            told.append((step, done, reads_behind_cut(plan, flash, order, step), row))
        if word == "told":
            done += 1
            row = due_behind(row, order)
    return [*told, (None, done, drive.reads(), row)]


def first_unlike(rows):
    """Tell (step, place) of the first row, and its first place, that reads otherwise than is due, or None."""
    for step, done, reads, row in rows:
        for place in range(len(row)):
            if reads[place] != row[place]:
                return (step, place)
    return None


def outcomes(plan, orders, weather=()):
    """Tell (step, done, reads) for a cut at each step that the orders take, and at last for none."""
    look_at_run(plan, orders, weather)
    return tuple([(step, done, reads) for step, done, reads, row in tried_at_each_step(plan, orders, weather)])


def due(plan, orders):
    """Tell what each place reads behind orders that nothing strikes."""
    look_at_orders(plan, orders)
    row = (None,) * plan[2]
    for order in orders:
        row = due_behind(row, order)
    return row


def held(plan, orders, weather=()):
    """Tell None where all outcomes hold, else (step, place) of the first that doesn't."""
    look_at_run(plan, orders, weather)
    return first_unlike(tried_at_each_step(plan, orders, weather))


def least_break(plan, orders, bit):
    """Tell (weather, what held tells) of the first weather, of none or one such turned bit, that breaks it, or None."""
    look_at_orders(plan, orders)
    if not is_within(bit, 0, LAST_BIT):
        raise NoNumber("a bit is a whole number from 0 to 46")
    rows = tried_at_each_step(plan, orders, ())
    broken = first_unlike(rows)
    if broken is not None:
        return ((), broken)
    for step, done, reads, row in rows[:-1]:
        weather = ((step, ("bit", bit)),)
        broken = first_unlike(tried_at_each_step(plan, orders, weather))
        if broken is not None:
            return (weather, broken)
    return None
