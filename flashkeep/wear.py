"""Wear: how often blocks were wiped, how many newest pages they have, and whether there is room."""

from flashkeep.errors import NoFlash, NoNumber
from flashkeep.flash import Flash
from flashkeep.looks import is_within
from flashkeep.scans import blocks_in_turn, failed_with_newest, free_pages, living_pages, look_at_flash

MOST_PAGES = 5


def worn(flash):
    """Tell (least, greatest) of the wipes of good blocks, None where there is none."""
    if not isinstance(flash, Flash):
        raise NoFlash("this is no flash")
    counts = [flash.wipes(block) for block in range(flash.blocks()) if not flash.is_bad(block)]
    return (min(counts), max(counts)) if counts else None


def living(plan, flash):
    """Tell, for each block, how many newest pages it has."""
    look_at_flash(plan, flash)
    return living_pages(plan, flash)


def has_room(plan, flash, many):
    """Tell whether there is room for so many pages, be it that blocks are collected for it."""
    counts = living_pages(plan, flash)
    left = free_pages(flash)
    for block in failed_with_newest(flash, counts):
        if counts[block] > left:
            return False
        left -= counts[block]
    # A block's pages are kept besides, so that a block can always be collected.
    wanted = many + plan[1]
    for block in blocks_in_turn(flash):
        if left >= wanted:
            return True
        if counts[block] > left:
            return False
        left += plan[1] - counts[block]
    return left >= wanted


def room(plan, flash, many):
    """Tell whether there is room for so many pages, from 1 to 5."""
    look_at_flash(plan, flash)
    if not is_within(many, 1, MOST_PAGES):
        raise NoNumber("room is asked for 1 to 5 pages")
    return has_room(plan, flash, many)
