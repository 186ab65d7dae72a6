"""Papers: by which pages a place reads what it reads."""

from flashkeep.errors import NoPaper, NoPlace
from flashkeep.looks import is_whole, is_within
from flashkeep.scans import data_at, look_at_flash, newest_of, pages_read

NONE = ("none",)


def look_at_place(plan, flash, place):
    """Refuse what is no plan, no flash of it, or no place of it."""
    look_at_flash(plan, flash)
    if not is_within(place, 0, plan[2] - 1):
        raise NoPlace("a place is a whole number from 0 on below how many the plan has")


def papers_of(plan, flash, place):
    """Tell all papers of a place: one, or, of a member, one for each commit of its group."""
    rows = pages_read(plan, flash)
    at = newest_of(plan, rows)[place]
    if at is None:
        return [NONE]
    block, page = at
    kind, own, number, group, data = flash.found(block, page, plan[3])[1]
    if kind != "member":
        return [("page", block, page, None)]
    return [("page", block, page, spot) for spot, fields in rows if (fields[0], fields[3]) == ("commit", group)]


def numbers_in(paper):
    """Tell all numbers of a paper, or of what Python takes to be alike."""
    if paper == NONE:
        return []
    word, block, page, spot = paper
    return [block, page] if spot is None else [block, page, *spot]


def is_paper(plan, flash, place, thing):
    """Tell whether a thing of any kind is a paper of the place."""
    look_at_place(plan, flash, place)
    # Python takes True for 1, so being alike alone would let truths for numbers.
    return thing in papers_of(plan, flash, place) and all([is_whole(number) for number in numbers_in(thing)])


def paper_of(plan, flash, place):
    """Tell a paper of the place."""
    look_at_place(plan, flash, place)
    return papers_of(plan, flash, place)[0]


def read_by(plan, flash, place, paper):
    """Tell what the place reads by a paper of it."""
    if not is_paper(plan, flash, place, paper):
        raise NoPaper("this is no paper of the place")
    return None if paper == NONE else data_at(plan, flash, (paper[1], paper[2]))
