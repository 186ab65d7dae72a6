"""The drive: orders done on a flash, with nothing in hand but what the look over all pages tells just then."""

from flashkeep.errors import NoOrder, NoRoom, Off, Over, Spoilt, Worn
from flashkeep.flash import Flash
from flashkeep.orders import is_order_below
from flashkeep.scans import data_at, look_at_flash, look_at_plan, readings, scan
from flashkeep.writing import copy_page, make_room, read_page, write_page


def is_order(plan, thing):
    """Tell whether a thing of any kind is an order of the plan."""
    look_at_plan(plan)
    return is_order_below(thing, plan[2])


class Drive:
    """A drive of a plan, on a blank flash with a weather, or on a twin of a flash that is handed in."""

    def __init__(self, plan, weather=(), *, flash=None):
        look_at_plan(plan)
        if flash is None:
            self.medium = Flash(plan[0], plan[1], weather)
        else:
            look_at_flash(plan, flash)
            self.medium = flash.twin()
            self.medium.on()
        self.layout = plan

    def do(self, order):
        """Do an order: tell what is read, which places mend moved, None of the others."""
        if not is_order(self.layout, order):
            raise NoOrder("this is no order of the plan")
        if not self.medium.is_on():
            raise Off("power is off")
        word = order[0]
        if word == "read":
            return self.read_place(order[1])
        if word == "mend":
            return self.mend_places()
        if word == "write":
            self.write_rows("write", [(order[1], order[2])])
        elif word == "trim":
            self.trim_place(order[1])
        elif self.layout[4]:
            self.write_group(order[1])
        else:
            self.write_rows("write", order[1])
        return None

    def newest_page(self, place):
        """Tell where the newest page of a place stands just now, or None."""
        return scan(self.layout, self.medium)[0][place]

    def is_empty(self, at):
        """Tell whether a place with that newest page reads none."""
        return data_at(self.layout, self.medium, at) is None

    def read_place(self, place):
        """Tell what a place reads, by a step where there is a page to be read."""
        at = self.newest_page(place)
        if self.is_empty(at):
            return None
        state, fields = read_page(self.layout, self.medium, at)
        if state == "spoilt":
            raise Spoilt("the page is spoilt")
        return fields[4]

    def write_rows(self, kind, rows):
        """Write a page of a kind for each row, with no commit."""
        make_room(self.layout, self.medium, len(rows))
        for place, data in rows:
            write_page(self.layout, self.medium, kind, place, 0, data)

    def trim_place(self, place):
        """Write a trim where the place reads something."""
        if not self.is_empty(self.newest_page(place)):
            self.write_rows("trim", [(place, 0)])

    def write_group(self, rows):
        """Write a member for each row, and the commit by which they all count."""
        make_room(self.layout, self.medium, len(rows) + 1)
        # A write that fails leaves no page, so the first member gets this number whichever block takes it.
        group = scan(self.layout, self.medium)[1]
        for place, data in rows:
            write_page(self.layout, self.medium, "member", place, group, data)
        write_page(self.layout, self.medium, "commit", 0, group, 0)

    def mend_place(self, place):
        """Move the newest page of a place if it is a mended one, and tell whether it was moved."""
        at = self.newest_page(place)
        if at is None or read_page(self.layout, self.medium, at)[0] != "mended":
            return False
        make_room(self.layout, self.medium, 1)
        at = self.newest_page(place)
        return at is not None and copy_page(self.layout, self.medium, place, at)

    def mend_places(self):
        """Move mended pages, place by place, as long as there is room; tell the places moved."""
        moved = []
        for place in range(self.layout[2]):
            try:
                if self.mend_place(place):
                    moved.append(place)
            except (NoRoom, Over, Worn):
                break
        return tuple(moved)

    def on(self):
        """Put power on."""
        self.medium.on()

    def off(self):
        """Put power off."""
        self.medium.off()

    def flash(self):
        """Tell a twin of the flash."""
        return self.medium.twin()

    def steps(self):
        """Tell how many steps the flash took."""
        return self.medium.steps()

    def is_on(self):
        """Tell whether power is on."""
        return self.medium.is_on()

    def reads(self):
        """Tell what each place reads, by no step and whether power is on or not."""
        return readings(self.layout, self.medium)

    def plan(self):
        """Tell the plan."""
        return self.layout

    def twin(self):
        """Tell another drive on a twin of the flash, power as it is."""
        other = Drive(self.layout, flash=self.medium)
        if not self.medium.is_on():
            other.off()
        return other
