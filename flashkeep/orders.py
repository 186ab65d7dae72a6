"""Orders by their shape, and the places that they have."""

from flashkeep.looks import is_within

GREATEST_DATA = 63
MOST_ROWS = 4


def is_row(thing, places):
    """Tell whether a thing of any kind is a place, one of so many, with data."""
    if not isinstance(thing, tuple) or len(thing) != 2:
        return False
    place, data = thing
    return is_within(place, 0, places - 1) and is_within(data, 0, GREATEST_DATA)


def is_rows(thing, places):
    """Tell whether a thing of any kind is the rows of a group."""
    if not isinstance(thing, tuple) or not 1 <= len(thing) <= MOST_ROWS:
        return False
    if not all([is_row(row, places) for row in thing]):
        return False
    return len(set([row[0] for row in thing])) == len(thing)


def is_order_below(thing, places):
    """Tell whether a thing of any kind is an order of a plan of so many places."""
    if not isinstance(thing, tuple) or not thing:
        return False
    word, *parts = thing
    if word == "mend":
        return not parts
    if word == "write":
        return is_row(tuple(parts), places)
    if len(parts) != 1:
        return False
    if word == "group":
        return is_rows(parts[0], places)
    return word in ("read", "trim") and is_within(parts[0], 0, places - 1)


def places_in(order):
    """Tell the places that an order but mend has, of a group all of its."""
    if order[0] == "group":
        return [place for place, data in order[1]]
    return [order[1]]
