"""Health: what state a flash is in, and how many steps the next order takes."""

from flashkeep.orders import MOST_ROWS
from flashkeep.queues import answer_of
from flashkeep.scans import free_pages, living_pages, look_at_flash, pages_read
from flashkeep.wear import worn


def states_of(plan, flash):
    """Tell the state of each page: "blank", "torn", "good", "mended" or "spoilt"."""
    blocks, pages, places, sealed, commits = plan
    told = []
    for block in range(blocks):
        for page in range(pages):
            found = flash.found(block, page, sealed)
            told.append(flash.peek(block, page)[0] if found is None else found[0])
    return told


def health(plan, flash):
    """Tell a dict of how many blocks and pages are in which state."""
    look_at_flash(plan, flash)
    states = states_of(plan, flash)
    failed = [block for block in range(plan[0]) if flash.is_bad(block)]
    many_read = len(pages_read(plan, flash))
    least, greatest = worn(flash) or (None, None)
    return {
        "good": plan[0] - len(failed),
        "failed": len(failed),
        "blank": states.count("blank"),
        "torn": states.count("torn"),
        "read": many_read,
        "spoilt": states.count("spoilt"),
        "mended": states.count("mended"),
        "dead": many_read - sum(living_pages(plan, flash)),
        "least": least,
        "greatest": greatest,
        "free": free_pages(flash),
    }


def takes(drive, order):
    """Tell (steps, word): how many steps an order would take, and the word of its refusal, or None."""
    other = drive.twin()
    word, told = answer_of(other, order)
    return (other.steps() - drive.steps(), told if word == "no" else None)


def orders_tried(places):
    """Tell the orders of which most looks for the one with the most steps."""
    told = []
    for place in range(places):
        told.extend([("read", place), ("write", place, 0), ("trim", place)])
    rows = [(place, 0) for place in range(min(places, MOST_ROWS))]
    return [*told, ("group", tuple(rows))]


def most(drive):
    """Tell (steps, order): the most steps that any next order takes, and the first that does."""
    best = (-1, None)
    for order in orders_tried(drive.plan()[2]):
        steps, word = takes(drive, order)
        if steps > best[0]:
            best = (steps, order)
    return best
