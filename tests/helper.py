"""What several test files need: wrong things, how a call is refused, and flashes by hand."""

import copy

from flashkeep.drives import Drive
from flashkeep.errors import FlashError, NoRoom, Off, Over, Spoilt, Worn
from flashkeep.flash import Flash
from flashkeep.pages import fields_in, word_of


def nested(deep):
    thing = []
    for _ in range(deep - 1):
        thing = [thing]
    return thing


# Things of other kinds than whole numbers, the truths among them.
OTHER_KINDS = [
    True, False, None, "", "1", "4", "a" * 2000, [], [1], [4, 4], (), (1,), (4, 4), {}, {4: 4}, {"width": 4},
    [1, [2, (3, None)], {"a": [True]}], nested(10), [1] * 2000, tuple(range(2000)), {k: k for k in range(999)},
    1.0, 4.0, b"4",
]
FAR_NUMBERS = [10 ** 29, 10 ** 30 - 1, -(10 ** 29), -(10 ** 30 - 1)]


def as_it_is(thing):
    if isinstance(thing, Drive):
        return thing.plan(), state_of(thing.flash())
    return state_of(thing) if isinstance(thing, Flash) else copy.deepcopy(thing)


def assert_refused(case, error, call, *args, **named):
    """The very class is raised, not one under it, and what was handed in stays as it was."""
    handed = [*args, *named.values()]
    before = [as_it_is(thing) for thing in handed]
    with case.assertRaises(error) as caught:
        call(*args, **named)
    case.assertIs(type(caught.exception), error)
    case.assertEqual([as_it_is(thing) for thing in handed], before)


def scattered(many, below, seed=12345):
    """Numbers of no likeness to each other, the same ones in every run."""
    told = []
    state = seed
    for _ in range(many):
        state = (state * 6364136223846793005 + 1442695040888963407) % 2 ** 64
        told.append((state ^ state >> 29) % below)
    return told


def choices(many, seed):
    """A function that tells one of some things, the same ones in every run of the same seed."""
    numbers = iter(scattered(many, 2 ** 62, seed))
    return lambda things: things[next(numbers) % len(things)]


def state_of(flash):
    """All that a flash tells of itself."""
    blocks, pages = range(flash.blocks()), range(flash.pages())
    return (
        [[flash.peek(block, page) for page in pages] for block in blocks],
        [flash.wipes(block) for block in blocks],
        [flash.is_bad(block) for block in blocks],
        flash.is_on(),
        flash.steps(),
    )


FAULTS_OF_DEEDS = {"tear": ("cut",), "tear all": ("cut",), "fail": ("bad",)}


def first_blank(flash, block):
    return [flash.peek(block, page) for page in range(flash.pages())].index(("blank",))


def built(plan, deeds, later=()):
    """A flash of a plan by deeds, each of them one step, and with a weather whose steps are counted behind them.

    ("put", block, what, bits ..) puts a word, or fields, sealed or not as the plan is, with these bits turned, at the
    block's first blank page; ("tear", block) tears that page, ("tear all", block) the block, ("fail", block) lets it
    fail, ("wipe", block) wipes it.
    """
    weather = [(step, FAULTS_OF_DEEDS[deed[0]]) for step, deed in enumerate(deeds) if deed[0] in FAULTS_OF_DEEDS]
    weather += [(len(deeds) + step, fault) for step, fault in later]
    flash = Flash(plan[0], plan[1], tuple(weather))
    for deed, block, *more in deeds:
        try:
            if deed == "put":
                word = more[0] if isinstance(more[0], int) else word_of(more[0], plan[3])
                flash.write(block, first_blank(flash, block), word ^ sum(1 << bit for bit in more[1:]))
            elif deed == "tear":
                flash.write(block, first_blank(flash, block), 0)
            else:
                flash.wipe(block)
        except Off:
            flash.on()
    return flash


def filled(block, many, number=0):
    """Deeds that put so many pages of a place that is none of most plans."""
    return [("put", block, ("write", 15, number, 0, 0))] * many


class Look:
    """What points 41, 42, 54 and 60 tell of a flash, worked out by their words alone."""

    def __init__(self, plan, flash):
        self.plan = plan
        blocks, pages, places, sealed, _ = plan
        self.cells = {(block, page): flash.peek(block, page) for block in range(blocks) for page in range(pages)}
        self.wipes = [flash.wipes(block) for block in range(blocks)]
        self.good = [block for block in range(blocks) if not flash.is_bad(block)]
        words = {at: cell[1] for at, cell in self.cells.items() if cell[0] == "word"}
        found = {at: fields_in(word, sealed) for at, word in words.items()}
        self.read = {at: fields for at, (state, fields) in found.items() if state != "spoilt"}
        self.newest = tuple(self.newest_of(place) for place in range(places))
        self.next = max([1] + [fields[2] + 1 for fields in self.read.values()])
        partly = [block for block in self.good if 0 < self.blanks(block) < pages]
        self.head = (partly[0], pages - self.blanks(partly[0])) if partly else None

    def blanks(self, block):
        return sum(cell == ("blank",) for at, cell in self.cells.items() if at[0] == block)

    def counts(self, fields):
        commits = [other[3] for other in self.read.values() if other[0] == "commit"]
        return fields[0] in ("write", "trim") or fields[0] == "member" and fields[3] in commits

    def newest_of(self, place):
        rows = [(-fields[2], at) for at, fields in self.read.items() if fields[1] == place and self.counts(fields)]
        return min(rows)[1] if rows else None

    def living(self):
        return tuple(sum(at is not None and at[0] == block for at in self.newest) for block in range(self.plan[0]))

    def blank_blocks(self):
        return [block for block in self.good if self.blanks(block) == self.plan[1]]

    def to_open(self):
        return min(((self.wipes[block], block) for block in self.blank_blocks()), default=(0, None))[1]

    def free(self):
        at_head = self.blanks(self.head[0]) if self.head else 0
        return at_head + sum(self.blanks(block) for block in self.blank_blocks())

    def in_turn(self):
        head = self.head[0] if self.head else None
        others = [block for block in self.good if block != head and block not in self.blank_blocks()]
        return [block for _, block in sorted((self.wipes[block], block) for block in others)]

    def failed(self):
        return [block for block, many in enumerate(self.living()) if block not in self.good and many]

    def to_collect(self):
        return (self.failed() + self.in_turn() + [None])[0]

    def worn(self):
        counts = sorted(self.wipes[block] for block in self.good)
        return (counts[0], counts[-1]) if counts else None

    def room(self, many):
        left, pages = self.free(), self.plan[1]
        for block in self.failed():
            if self.living()[block] > left:
                return False
            left -= self.living()[block]
        for block in self.in_turn():
            if left < many + pages:
                if self.living()[block] > left:
                    return False
                left = left - self.living()[block] + pages
        return not left < many + pages


def scattered_plan(pick):
    plans = [(3, 6, 1), (3, 8, 3), (4, 3, 1), (4, 4, 3), (5, 2, 1), (5, 3, 4), (8, 2, 7), (6, 4, 11), (4, 8, 11)]
    return (*pick(plans), pick([True, True, False]), pick([True, False]))


def scattered_fields(pick, plan):
    """Fields of few numbers, groups and places, so that many are alike."""
    kind = pick(["write", "write", "write", "trim", "member", "member", "commit"])
    place = 0 if kind == "commit" else pick(range(min(16, plan[2] + 1)))
    group = pick(range(4)) if kind in ("member", "commit") else 0
    return (kind, place, pick(range(12)), group, pick(range(64)) if kind in ("write", "member") else 0)


def scattered_deeds(pick, plan, many):
    """Deeds of all kinds, for as long as there is a block for them."""
    blanks = {block: plan[1] for block in range(plan[0])}
    struck = 0
    deeds = []
    for _ in range(many):
        block = pick(range(plan[0]))
        deed = pick(["put"] * 14 + ["tear", "wipe", "wipe", "fail" if pick([True, False]) else "tear all"])
        if block in blanks and (deed not in ("put", "tear") or blanks[block]) and struck < 40:
            bits = pick([[], [], [], [pick(range(47))], [3, pick(range(5, 47))]])
            deeds.append((deed, block, scattered_fields(pick, plan), *bits) if deed == "put" else (deed, block))
            blanks[block] = {"wipe": plan[1], "tear all": 0}.get(deed, blanks[block] - 1)
            struck += deed in FAULTS_OF_DEEDS
            if deed == "fail":
                del blanks[block]
    return deeds


def scattered_flashes(many):
    """Plans, and flashes of them, of all kinds."""
    for seed in range(many):
        pick = choices(3000, seed)
        plan = scattered_plan(pick)
        yield plan, built(plan, scattered_deeds(pick, plan, pick([5, 20, 40, 80, 120])))


def pages_on(plan, flash):
    """The fields of each page that is read, and what else each page is that isn't blank."""
    told = {}
    for block in range(plan[0]):
        for page in range(plan[1]):
            cell = flash.peek(block, page)
            if cell[0] == "word":
                state, fields = fields_in(cell[1], plan[3])
                told[block, page] = fields or state
            elif cell[0] == "torn":
                told[block, page] = "torn"
    return told


def put_down(row, order):
    """What a plain list of places is behind an order."""
    rows = {"write": [order[1:]], "trim": [(order[-1], None)], "group": order[-1]}.get(order[0], [])
    changed = dict(rows)
    return [changed.get(place, data) for place, data in enumerate(row)]


WORDS_OF_REFUSALS = {Off: "off", NoRoom: "room", Over: "over", Worn: "worn", Spoilt: "spoilt"}


def answered(drive, order):
    """What point 70 has for an answer to an order."""
    try:
        return ("told", drive.do(order))
    except FlashError as error:
        return ("no", WORDS_OF_REFUSALS[type(error)])


def driven(plan, orders, weather=()):
    """A drive that was told some orders."""
    drive = Drive(plan, weather)
    for order in orders:
        drive.do(order)
    return drive


def scattered_order(pick, plan, kinds=("read", "write", "write", "trim", "group", "group", "mend")):
    kind = pick(kinds)
    places = list(range(plan[2]))
    rows = []
    for _ in range(pick(range(1, 5)) if kind == "group" else 1):
        if places:
            place = pick(places)
            places.remove(place)
            rows.append((place, pick(range(64))))
    return {
        "read": ("read", rows[0][0]), "write": ("write", *rows[0]), "trim": ("trim", rows[0][0]),
        "group": ("group", tuple(rows)), "mend": ("mend",),
    }[kind]


def scattered_weather(pick, most, faults, steps):
    """A weather of at most so many faults, of some kinds, at steps below a bound."""
    struck = sorted({pick(range(steps)) for _ in range(pick(range(most + 1)))})
    kinds = {"cut": lambda: ("cut",), "bad": lambda: ("bad",), "bit": lambda: ("bit", pick(range(47)))}
    return tuple((step, kinds[pick(faults)]()) for step in struck)


class Refused(Exception):
    """A plain drive refuses, with the word of point 70."""


class PlainDrive:
    """What points 51 to 55 tell of orders, done on a flash by their words alone, with a new look ahead of each step."""

    def __init__(self, plan, flash):
        self.plan = plan
        self.flash = flash

    def look(self):
        return Look(self.plan, self.flash)

    def answer(self, order):
        try:
            if not self.flash.is_on():
                raise Off("off")
            return ("told", getattr(self, order[0])(*order[1:]))
        except Off:
            return ("no", "off")
        except Refused as refusal:
            return ("no", str(refusal))

    def taken(self, at):
        self.flash.read(*at)
        return fields_in(self.flash.peek(*at)[1], self.plan[3])

    def put(self, kind, place, data, group=0):
        while True:
            look = self.look()
            block = look.to_open()
            if look.head is None and block is None or look.next > 16383:
                raise Refused("worn")
            at = look.head or (block, 0)
            if self.flash.write(*at, word_of((kind, place, look.next, group, data), self.plan[3])):
                return

    def copy(self, place, at):
        state, fields = self.taken(at)
        if fields:
            self.put("trim" if fields[0] == "trim" else "write", place, fields[4])
        return state != "spoilt"

    def make_room(self, many):
        if self.look().next > 16000:
            raise Refused("over")
        if not self.look().room(many):
            raise Refused("room")
        while self.look().failed() or self.look().free() < many + self.plan[1]:
            look = self.look()
            block = look.to_collect()
            if block is None or look.living()[block] > look.free() or not look.room(many):
                raise Refused("worn")
            for page in range(self.plan[1]):
                places = [place for place, at in enumerate(self.look().newest) if at == (block, page)]
                for place in places:
                    self.copy(place, (block, page))
            if block in self.look().good:
                self.flash.wipe(block)

    def read(self, place):
        at = self.look().newest[place]
        if at is None or self.look().read[at][0] == "trim":
            return None
        state, fields = self.taken(at)
        if state == "spoilt":
            raise Refused("spoilt")
        return fields[4]

    def write(self, place, data):
        self.make_room(1)
        self.put("write", place, data)

    def trim(self, place):
        at = self.look().newest[place]
        if at is not None and self.look().read[at][0] != "trim":
            self.make_room(1)
            self.put("trim", place, 0)

    def group(self, rows):
        self.make_room(len(rows) + self.plan[4])
        group = self.look().next
        for place, data in rows:
            self.put("member" if self.plan[4] else "write", place, data, group if self.plan[4] else 0)
        if self.plan[4]:
            self.put("commit", 0, 0, group)

    def mend(self):
        moved = []
        for place in range(self.plan[2]):
            at = self.look().newest[place]
            if at and self.taken(at)[0] == "mended":
                try:
                    self.make_room(1)
                    at = self.look().newest[place]
                    if at and self.copy(place, at):
                        moved.append(place)
                except Refused:
                    return tuple(moved)
        return tuple(moved)

    def reads(self):
        look = self.look()
        fields = [at and look.read[at] for at in look.newest]
        return tuple(row[4] if row and row[0] != "trim" else None for row in fields)
