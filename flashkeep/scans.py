"""The look over all pages: what is newest, where is written next, which block is opened and collected next."""

from flashkeep.errors import NoFlash, NoPlan
from flashkeep.flash import Flash
from flashkeep.looks import is_within

MOST_PLACES = 16


def is_plan(thing):
    """Tell whether a thing of any kind is a plan."""
    if not isinstance(thing, tuple) or len(thing) != 5:
        return False
    blocks, pages, places, sealed, commits = thing
    if not is_within(blocks, 3, 8) or not is_within(pages, 2, 8):
        return False
    most = min(MOST_PLACES, (blocks - 2) * pages - 5)
    return is_within(places, 1, most) and isinstance(sealed, bool) and isinstance(commits, bool)


def look_at_plan(plan):
    """Refuse what is no plan."""
    if not is_plan(plan):
        raise NoPlan("a plan is a tuple of blocks, pages, places, sealed and commits, each within its bounds")


def look_at_flash(plan, flash):
    """Refuse what is no plan, then what is no flash of it."""
    look_at_plan(plan)
    if not isinstance(flash, Flash) or (flash.blocks(), flash.pages()) != (plan[0], plan[1]):
        raise NoFlash("a flash of a plan is one with the plan's blocks and pages")


def pages_read(plan, flash):
    """Tell ((block, page), fields) of each page that is read, rising."""
    blocks, pages, places, sealed, commits = plan
    told = []
    for block in range(blocks):
        for page in range(pages):
            found = flash.found(block, page, sealed)
            if found is not None and found[0] != "spoilt":
                told.append(((block, page), found[1]))
    return told


def newest_of(plan, rows):
    """Tell, for each place, where its newest page stands, or None, of the pages read."""
    places = plan[2]
    committed = {fields[3]: True for at, fields in rows if fields[0] == "commit"}
    newest = [None] * places
    numbers = [-1] * places
    for at, (kind, place, number, group, data) in rows:
        counts = kind in ("write", "trim") or (kind == "member" and group in committed)
        # The pages stand rising, so of those with the same number the first one stays.
        if counts and place < places and number > numbers[place]:
            newest[place] = at
            numbers[place] = number
    return tuple(newest)


def number_behind(rows):
    """Tell one more than the greatest number of the pages read."""
    return max([fields[2] for at, fields in rows], default=0) + 1


def head_of(flash):
    """Tell (block, page) of the page that is written next in a block begun already, or None."""
    for block in range(flash.blocks()):
        page = flash.first_blank(block)
        if 0 < page < flash.pages() and not flash.is_bad(block):
            return (block, page)
    return None


def blank_blocks(flash):
    """Tell the blank good blocks, by wipes, then number."""
    told = [
        block for block in range(flash.blocks())
        if flash.first_blank(block) == 0 and not flash.is_bad(block)
    ]
    return sorted(told, key=flash.wipes)


def blocks_in_turn(flash):
    """Tell the good blocks that aren't blank and not head's, by wipes, then number."""
    head = head_of(flash)
    told = [
        block for block in range(flash.blocks())
        if flash.first_blank(block) > 0 and not flash.is_bad(block) and (head is None or block != head[0])
    ]
    return sorted(told, key=flash.wipes)


def free_pages(flash):
    """Tell how many pages can be written."""
    head = head_of(flash)
    at_head = 0 if head is None else flash.pages() - head[1]
    return at_head + len(blank_blocks(flash)) * flash.pages()


def living_pages(plan, flash):
    """Tell, for each block, how many newest pages it has."""
    many = [0] * plan[0]
    for at in newest_of(plan, pages_read(plan, flash)):
        if at is not None:
            many[at[0]] += 1
    return tuple(many)


def failed_with_newest(flash, living):
    """Tell the failed blocks that have newest pages, rising."""
    return [block for block in range(flash.blocks()) if flash.is_bad(block) and living[block] > 0]


def data_at(plan, flash, at):
    """Tell what a place reads whose newest page stands there: its data, None of a trim or where there is none."""
    if at is None:
        return None
    kind, place, number, group, data = flash.found(at[0], at[1], plan[3])[1]
    return None if kind == "trim" else data


def readings(plan, flash):
    """Tell what each place reads, by no step."""
    return tuple([data_at(plan, flash, at) for at in newest_of(plan, pages_read(plan, flash))])


def scan(plan, flash):
    """Tell (newest, next, head): where each place's newest page stands, the next number, where is written next."""
    look_at_flash(plan, flash)
    rows = pages_read(plan, flash)
    return (newest_of(plan, rows), number_behind(rows), head_of(flash))


def to_open(plan, flash):
    """Tell which blank good block is opened next, or None."""
    look_at_flash(plan, flash)
    blank = blank_blocks(flash)
    return blank[0] if blank else None


def free(plan, flash):
    """Tell how many pages can be written."""
    look_at_flash(plan, flash)
    return free_pages(flash)


def to_collect(plan, flash):
    """Tell which block is collected next, or None."""
    look_at_flash(plan, flash)
    turn = failed_with_newest(flash, living_pages(plan, flash)) + blocks_in_turn(flash)
    return turn[0] if turn else None
