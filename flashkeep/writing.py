"""How pages are written and moved, and room is made for them: by what the scan tells just then, and nothing else."""

from flashkeep.errors import NoRoom, Over, Worn
from flashkeep.pages import GREATEST_NUMBER, word_of
from flashkeep.scans import failed_with_newest, free, living_pages, scan, to_collect, to_open
from flashkeep.wear import has_room

# Behind this number no order is begun, so that those begun have numbers left for all that they move.
LAST_BEGUN = 16000


def where_to_write(plan, flash, head):
    """Tell the page that is written next: head, or the first one of the block to be opened."""
    if head is not None:
        return head
    block = to_open(plan, flash)
    if block is None:
        raise Worn("no block is left that a page could be written to")
    return (block, 0)


def write_page(plan, flash, kind, place, group, data):
    """Write a page with the next number, in another block where one fails."""
    written = False
    while not written:
        newest, number, head = scan(plan, flash)
        block, page = where_to_write(plan, flash, head)
        if number > GREATEST_NUMBER:
            raise Worn("no number is left that a page could have")
        written = flash.write(block, page, word_of((kind, place, number, group, data), plan[3]))


def read_page(plan, flash, at):
    """Read a page, by a step, and tell (state, fields) as they are then."""
    block, page = at
    flash.read(block, page)
    return flash.found(block, page, plan[3])


def copy_page(plan, flash, place, at):
    """Read the newest page of a place, by a step, and write it anew; tell whether, for a spoilt one is left out."""
    state, fields = read_page(plan, flash, at)
    if state == "spoilt":
        return False
    # A member becomes a write, so that it hangs on no commit any more.
    kind = "trim" if fields[0] == "trim" else "write"
    write_page(plan, flash, kind, place, 0, fields[4])
    return True


def collect(plan, flash, block):
    """Move the newest pages of a block elsewhere, and wipe it if it is good."""
    for page in range(plan[1]):
        at = (block, page)
        newest = scan(plan, flash)[0]
        if at in newest:
            copy_page(plan, flash, newest.index(at), at)
    if not flash.is_bad(block):
        flash.wipe(block)


def is_room_made(plan, flash, many):
    """Tell whether so many pages can be written with no block collected ahead of them."""
    if failed_with_newest(flash, living_pages(plan, flash)):
        return False
    return free(plan, flash) >= many + plan[1]


def collect_next(plan, flash, many):
    """Collect the block whose turn it is, as long as that can bring room for so many pages."""
    # Where no block is left to be collected, or it has more newest pages than are free, there is no room either.
    if not has_room(plan, flash, many):
        raise Worn("blocks failed, and what is left gives no room")
    collect(plan, flash, to_collect(plan, flash))


def make_room(plan, flash, many):
    """Make room for so many pages, where there is room for them."""
    if scan(plan, flash)[1] > LAST_BEGUN:
        raise Over("the numbers of pages are used up")
    if not has_room(plan, flash, many):
        raise NoRoom("there is no room for the pages")
    while not is_room_made(plan, flash, many):
        collect_next(plan, flash, many)
