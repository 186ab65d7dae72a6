"""Flash: pages that are written once, in blocks that are wiped whole, and that fail by a told weather."""

from flashkeep.errors import Bad, NoBlock, NoNumber, NoPage, NoWeather, NoWord, Off, Written
from flashkeep.looks import is_within
from flashkeep.pages import fields_in, is_word

MOST = 8
MOST_FAULTS = 40
LAST_STEP = 9999
LAST_BIT = 46

# A cell is what peek tells of a page, and (state, fields) of its word, sealed and not.
BLANK = (("blank",), None, None)
TORN = (("torn",), None, None)


def is_fault(thing):
    """Tell whether a thing of any kind is a fault."""
    if not isinstance(thing, tuple):
        return False
    if len(thing) == 2:
        return thing[0] == "bit" and is_within(thing[1], 0, LAST_BIT)
    return thing in (("cut",), ("bad",))


def is_weather(thing):
    """Tell whether a thing of any kind is a weather."""
    if not isinstance(thing, tuple) or len(thing) > MOST_FAULTS:
        return False
    least = 0
    for row in thing:
        if not isinstance(row, tuple) or len(row) != 2:
            return False
        step, fault = row
        if not is_within(step, least, LAST_STEP) or not is_fault(fault):
            return False
        least = step + 1
    return True


def cell_with(word):
    """Tell the cell of a page that holds a word."""
    # Every look over all pages needs the fields, so they are worked out once, where the word changes.
    return (("word", word), fields_in(word, True), fields_in(word, False))


class Flash:
    """A flash of blocks of pages, with the weather that strikes its steps."""

    def __init__(self, blocks, pages, weather=()):
        if not is_within(blocks, 1, MOST):
            raise NoNumber("blocks are a whole number from 1 to 8")
        if not is_within(pages, 1, MOST):
            raise NoNumber("pages are a whole number from 1 to 8")
        if not is_weather(weather):
            raise NoWeather("a weather is a rising tuple of at most 40 steps with their faults")
        self.block_count = blocks
        self.page_count = pages
        self.faults = {step: fault for step, fault in weather}
        self.cells = [[BLANK] * pages for block in range(blocks)]
        self.wipe_counts = [0] * blocks
        self.failed = [False] * blocks
        self.power = True
        self.step_count = 0

    def look_at_block(self, block):
        """Refuse what is no block."""
        if not is_within(block, 0, self.block_count - 1):
            raise NoBlock("a block is a whole number from 0 on below how many there are")

    def look_at_page(self, block, page):
        """Refuse what is no block, or no page of one."""
        self.look_at_block(block)
        if not is_within(page, 0, self.page_count - 1):
            raise NoPage("a page is a whole number from 0 on below how many a block has")

    def look_at_power(self):
        """Refuse all while power is off."""
        if not self.power:
            raise Off("power is off")

    def look_at_failure(self, block):
        """Refuse a block that failed."""
        if self.failed[block]:
            raise Bad("the block failed")

    def step(self):
        """Take a step, and tell its fault, or None."""
        fault = self.faults.get(self.step_count)
        self.step_count += 1
        return fault

    def lose_power(self):
        """Let power go amid a step, which is refused."""
        self.power = False
        raise Off("power went amid the step")

    def read(self, block, page):
        """Tell a page's word, None of a blank or torn one, by a step."""
        self.look_at_power()
        self.look_at_page(block, page)
        fault = self.step()
        if fault == ("cut",):
            self.lose_power()
        told = self.cells[block][page][0]
        if told[0] != "word":
            return None
        word = told[1]
        if fault is not None and fault[0] == "bit":
            word ^= 1 << fault[1]
            self.cells[block][page] = cell_with(word)
        return word

    def write(self, block, page, word):
        """Write a word to the first blank page of a block, by a step, and tell whether the block took it."""
        self.look_at_power()
        self.look_at_page(block, page)
        if not is_word(word):
            raise NoWord("a word is a whole number from 0 on below two to the power 47")
        if page != self.first_blank(block):
            raise Written("the page is not the first blank one of its block")
        self.look_at_failure(block)
        fault = self.step()
        if fault == ("cut",):
            self.cells[block][page] = TORN
            self.lose_power()
        if fault == ("bad",):
            self.failed[block] = True
            return False
        if fault is not None:
            word ^= 1 << fault[1]
        self.cells[block][page] = cell_with(word)
        return True

    def wipe(self, block):
        """Make all pages of a block blank, by a step, and tell whether the block took it."""
        self.look_at_power()
        self.look_at_block(block)
        self.look_at_failure(block)
        fault = self.step()
        if fault == ("cut",):
            self.cells[block] = [TORN] * self.page_count
            self.lose_power()
        if fault == ("bad",):
            self.failed[block] = True
            return False
        self.cells[block] = [BLANK] * self.page_count
        self.wipe_counts[block] += 1
        return True

    def on(self):
        """Put power on."""
        self.power = True

    def off(self):
        """Put power off."""
        self.power = False

    def peek(self, block, page):
        """Tell what a page is: ("blank",), ("torn",) or ("word", word), by no step."""
        self.look_at_page(block, page)
        return self.cells[block][page][0]

    def wipes(self, block):
        """Tell how often a block was wiped."""
        self.look_at_block(block)
        return self.wipe_counts[block]

    def is_bad(self, block):
        """Tell whether a block failed."""
        self.look_at_block(block)
        return self.failed[block]

    def is_on(self):
        """Tell whether power is on."""
        return self.power

    def steps(self):
        """Tell how many steps there were."""
        return self.step_count

    def blocks(self):
        """Tell how many blocks there are."""
        return self.block_count

    def pages(self):
        """Tell how many pages a block has."""
        return self.page_count

    def first_blank(self, block):
        """Tell a block's first blank page, and how many it has where none is blank."""
        # Pages are written in their order, so behind the first blank one all are blank.
        cells = self.cells[block]
        return cells.index(BLANK) if BLANK in cells else self.page_count

    def found(self, block, page, sealed):
        """Tell (state, fields) of a page that holds a word, None of another one, by no step."""
        told, with_seal, without = self.cells[block][page]
        return with_seal if sealed else without

    def twin(self):
        """Tell another flash, as this one, which goes on by itself."""
        other = Flash(self.block_count, self.page_count)
        # The faults by step are never changed, so both may keep the same ones.
        other.faults = self.faults
        other.cells = [list(row) for row in self.cells]
        other.wipe_counts = list(self.wipe_counts)
        other.failed = list(self.failed)
        other.power = self.power
        other.step_count = self.step_count
        return other

    def with_cut(self, step):
        """Tell a twin in whose weather power goes at a step, in the place of what else is there."""
        other = self.twin()
        other.faults = {**self.faults, step: ("cut",)}
        return other
