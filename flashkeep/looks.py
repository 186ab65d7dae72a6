"""Looks at handed-in things that several modules need."""


def is_whole(thing):
    """Tell whether a thing of any kind is a whole number."""
    # Python counts True and False among the ints; here a truth is no number.
    return isinstance(thing, int) and not isinstance(thing, bool)


def is_within(thing, low, high):
    """Tell whether a thing of any kind is a whole number from low to high, both let."""
    return is_whole(thing) and low <= thing <= high
