"""Points 30 to 32: the flash, its faults by step, and its twin."""

import itertools
import unittest

from flashkeep.errors import Bad, FlashError, NoBlock, NoNumber, NoPage, NoWeather, NoWord, Off, Written
from flashkeep.flash import Flash
from helper import FAR_NUMBERS, OTHER_KINDS, assert_refused, choices, state_of

WORD = 0b1011
TOP = 2 ** 47 - 1
BLANK, TORN = ("blank",), ("torn",)
NO_INDEXES = [-1, 8, 9, *FAR_NUMBERS, *OTHER_KINDS]
NO_WORDS = [-1, 2 ** 47, 2 ** 47 + 1, *FAR_NUMBERS, *OTHER_KINDS]
NO_COUNTS = [0, 9, 10, -1, -8, *FAR_NUMBERS, *OTHER_KINDS]


class PlainFlash:
    """The flash as points 30 to 32 tell it, kept by the test: each deed tells ("told", what) or ("no", error)."""

    def __init__(self, blocks, pages, weather):
        self.pages = pages
        self.cells = {(block, page): BLANK for block in range(blocks) for page in range(pages)}
        self.wiped = {block: 0 for block in range(blocks)}
        self.failed = {block: False for block in range(blocks)}
        self.weather = dict(weather)
        self.power = True
        self.taken = 0

    def state(self):
        cells = [[self.cells[block, page] for page in range(self.pages)] for block in self.wiped]
        return (cells, list(self.wiped.values()), list(self.failed.values()), self.power, self.taken)

    def refusal(self, deed, block, page=0, word=0):
        if not self.power:
            return Off
        if block not in self.wiped:
            return NoBlock
        if page not in range(self.pages):
            return NoPage
        if word not in range(2 ** 47):
            return NoWord
        before = [self.cells[block, other] for other in range(page)]
        if deed == "write" and (BLANK in before or self.cells[block, page] != BLANK):
            return Written
        if deed in ("write", "wipe") and self.failed[block]:
            return Bad
        return None

    def do(self, deed, block, *more):
        error = self.refusal(deed, block, *more)
        if error is not None:
            return ("no", error)
        fault = self.weather.get(self.taken, ("fair",))
        self.taken += 1
        struck = [(block, more[0])] if deed == "write" else [at for at in self.cells if at[0] == block]
        if fault == ("cut",):
            self.power = False
            if deed != "read":
                self.cells.update({at: TORN for at in struck})
            return ("no", Off)
        if fault == ("bad",) and deed != "read":
            self.failed[block] = True
            return ("told", False)
        turned = 1 << fault[1] if fault[0] == "bit" else 0
        return ("told", getattr(self, deed)(block, turned, *more))

    def read(self, block, turned, page):
        cell = self.cells[block, page]
        if cell in (BLANK, TORN):
            return None
        self.cells[block, page] = ("word", cell[1] ^ turned)
        return cell[1] ^ turned

    def write(self, block, turned, page, word):
        self.cells[block, page] = ("word", word ^ turned)
        return True

    def wipe(self, block, turned):
        self.cells.update({at: BLANK for at in self.cells if at[0] == block})
        self.wiped[block] += 1
        return True


def told_by(call, *args):
    try:
        return ("told", call(*args))
    except FlashError as error:
        return ("no", type(error))


class MadeTest(unittest.TestCase):
    def test_every_size(self):
        for blocks, pages in itertools.product(range(1, 9), repeat=2):
            flash = Flash(blocks, pages)
            self.assertEqual((flash.blocks(), flash.pages()), (blocks, pages))
            self.assertEqual(state_of(flash), ([[BLANK] * pages] * blocks, [0] * blocks, [False] * blocks, True, 0))

    def test_no_numbers(self):
        for wrong in NO_COUNTS:
            assert_refused(self, NoNumber, Flash, wrong, 1)
            assert_refused(self, NoNumber, Flash, 8, wrong)
            assert_refused(self, NoNumber, Flash, 1, wrong, ())
            assert_refused(self, NoNumber, Flash, pages=wrong, blocks=1)

    def test_numbers_are_looked_at_ahead_of_the_weather(self):
        for weather in (None, [], ((0, ("rain",)),)):
            for blocks, pages in ((0, 1), (1, 0), (9, 9), (None, 3), (3, True)):
                assert_refused(self, NoNumber, Flash, blocks, pages, weather)

    def test_blocks_are_looked_at_first(self):
        for blocks, pages in ((0, 1), (0, 0), ("1", None)):
            with self.assertRaisesRegex(NoNumber, "blocks"):
                Flash(blocks, pages)

    def test_no_weather(self):
        for weather in [((0, ("cut", 1)),), ((1, ("bad",)), (1, ("cut",))), ((0, ("bit", 47)),), *OTHER_KINDS]:
            if weather != ():
                assert_refused(self, NoWeather, Flash, 3, 4, weather)
                assert_refused(self, NoWeather, Flash, weather=weather, pages=1, blocks=8)

    def test_by_names_in_another_order(self):
        flash = Flash(weather=((0, ("bad",)),), pages=2, blocks=5)
        self.assertEqual((flash.blocks(), flash.pages()), (5, 2))
        self.assertIs(flash.write(0, 0, 1), False)

    def test_no_weather_where_it_is_left_out(self):
        for flash in (Flash(1, 1), Flash(1, 1, ())):
            for _ in range(50):
                self.assertIs(flash.write(0, 0, WORD), True)
                self.assertEqual(flash.read(0, 0), WORD)
                self.assertIs(flash.wipe(0), True)
            self.assertEqual(state_of(flash), ([[BLANK]], [50], [False], True, 150))


class DeedsTest(unittest.TestCase):
    def test_read_write_wipe(self):
        flash = Flash(2, 3)
        self.assertIsNone(flash.read(1, 0))
        self.assertIs(flash.write(1, 0, WORD), True)
        self.assertIs(flash.write(1, 1, 0), True)
        self.assertIs(flash.write(1, 2, TOP), True)
        self.assertEqual([flash.read(1, page) for page in range(3)], [WORD, 0, TOP])
        self.assertEqual([flash.peek(1, page) for page in range(3)], [("word", WORD), ("word", 0), ("word", TOP)])
        self.assertIs(flash.wipe(1), True)
        self.assertIs(flash.wipe(1), True)
        self.assertEqual(state_of(flash), ([[BLANK] * 3] * 2, [0, 2], [False] * 2, True, 9))

    def test_by_names_in_another_order(self):
        flash = Flash(2, 3)
        self.assertIs(flash.write(word=WORD, page=0, block=1), True)
        self.assertEqual(flash.read(page=0, block=1), WORD)
        self.assertEqual(flash.peek(page=0, block=1), ("word", WORD))
        self.assertIs(flash.wipe(block=1), True)
        self.assertEqual([flash.wipes(block=1), flash.is_bad(block=1)], [1, False])

    def test_only_the_first_blank_page_is_written(self):
        flash = Flash(1, 3)
        for page, due in ((1, Written), (2, Written), (0, None), (0, Written), (2, Written), (1, None), (1, Written)):
            before = state_of(flash)
            if due is None:
                self.assertIs(flash.write(0, page, WORD), True)
            else:
                assert_refused(self, due, flash.write, 0, page, WORD)
                self.assertEqual(state_of(flash), before)

    def test_a_torn_page_is_not_blank(self):
        flash = Flash(1, 3, ((0, ("cut",)),))
        assert_refused(self, Off, flash.write, 0, 0, WORD)
        flash.on()
        assert_refused(self, Written, flash.write, 0, 0, WORD)
        assert_refused(self, Written, flash.write, 0, 2, WORD)
        self.assertIs(flash.write(0, 1, WORD), True)
        self.assertIsNone(flash.read(0, 0))

    def test_power(self):
        flash = Flash(1, 1)
        self.assertIsNone(flash.on())
        self.assertIs(flash.is_on(), True)
        self.assertIsNone(flash.off())
        self.assertIs(flash.is_on(), False)
        self.assertIsNone(flash.off())
        self.assertIs(flash.is_on(), False)
        self.assertIsNone(flash.on())
        self.assertEqual(state_of(flash), ([[BLANK]], [0], [False], True, 0))

    def test_kinds_of_what_is_told(self):
        flash = Flash(1, 2)
        flash.write(0, 0, WORD)
        told = [flash.read(0, 0), flash.peek(0, 0), flash.wipes(0), flash.steps(), flash.blocks(), flash.pages()]
        self.assertEqual([type(one) for one in told], [int, tuple, int, int, int, int])
        self.assertEqual([type(one) for one in (flash.is_bad(0), flash.is_on(), flash.wipe(0))], [bool] * 3)
        self.assertIs(type(flash.twin()), Flash)

    def test_each_method_stands_in_the_class_itself(self):
        for name in """read write wipe on off peek wipes steps is_bad is_on blocks pages twin""".split():
            self.assertIn(name, vars(Flash))


class FaultsTest(unittest.TestCase):
    def written(self, fault):
        """A flash of two blocks, the first with two words and a blank page, with the fault at step 2."""
        flash = Flash(2, 3, ((2, fault),))
        flash.write(0, 0, WORD)
        flash.write(0, 1, TOP)
        return flash

    def assert_state(self, flash, cells, wipes=0, bad=False, on=True, steps=3):
        self.assertEqual(state_of(flash), ([cells, [BLANK] * 3], [wipes, 0], [bad, False], on, steps))

    def test_bad_at_a_read(self):
        flash = self.written(("bad",))
        self.assertEqual(flash.read(0, 0), WORD)
        self.assert_state(flash, [("word", WORD), ("word", TOP), BLANK])

    def test_bad_at_a_write(self):
        flash = self.written(("bad",))
        self.assertIs(flash.write(0, 2, 5), False)
        self.assert_state(flash, [("word", WORD), ("word", TOP), BLANK], bad=True)
        assert_refused(self, Bad, flash.write, 0, 2, 5)
        assert_refused(self, Bad, flash.wipe, 0)
        self.assertEqual(flash.read(0, 1), TOP)
        self.assertIs(flash.write(1, 0, 5), True)

    def test_bad_at_a_wipe(self):
        flash = self.written(("bad",))
        self.assertIs(flash.wipe(0), False)
        self.assert_state(flash, [("word", WORD), ("word", TOP), BLANK], bad=True)
        self.assertEqual(flash.read(0, 0), WORD)

    def test_a_bit_at_a_read(self):
        for bit in range(47):
            flash = self.written(("bit", bit))
            self.assertEqual(flash.read(0, 0), WORD ^ 2 ** bit)
            self.assert_state(flash, [("word", WORD ^ 2 ** bit), ("word", TOP), BLANK])
            self.assertEqual(flash.read(0, 0), WORD ^ 2 ** bit)

    def test_a_bit_at_a_read_of_a_failed_block(self):
        flash = Flash(1, 2, ((1, ("bad",)), (2, ("bit", 3))))
        flash.write(0, 0, WORD)
        flash.write(0, 1, WORD)
        self.assertEqual(flash.read(0, 0), WORD ^ 8)
        self.assertEqual(state_of(flash), ([[("word", WORD ^ 8), BLANK]], [0], [True], True, 3))

    def test_a_bit_at_a_write(self):
        for bit in range(47):
            flash = self.written(("bit", bit))
            self.assertIs(flash.write(0, 2, 5), True)
            self.assert_state(flash, [("word", WORD), ("word", TOP), ("word", 5 ^ 2 ** bit)])

    def test_a_bit_at_a_wipe_does_nothing(self):
        flash = self.written(("bit", 0))
        self.assertIs(flash.wipe(0), True)
        self.assert_state(flash, [BLANK] * 3, wipes=1)

    def test_a_bit_at_a_blank_page_does_nothing(self):
        flash = self.written(("bit", 0))
        self.assertIsNone(flash.read(0, 2))
        self.assert_state(flash, [("word", WORD), ("word", TOP), BLANK])

    def test_a_bit_at_a_torn_page_does_nothing(self):
        flash = Flash(1, 1, ((0, ("cut",)), (1, ("bit", 46))))
        assert_refused(self, Off, flash.write, 0, 0, WORD)
        flash.on()
        self.assertIsNone(flash.read(0, 0))
        self.assertEqual(state_of(flash), ([[TORN]], [0], [False], True, 2))

    def test_a_cut_at_a_read(self):
        flash = self.written(("cut",))
        assert_refused(self, Off, flash.read, 0, 0)
        self.assert_state(flash, [("word", WORD), ("word", TOP), BLANK], on=False)

    def test_a_cut_at_a_write(self):
        flash = self.written(("cut",))
        assert_refused(self, Off, flash.write, 0, 2, 5)
        self.assert_state(flash, [("word", WORD), ("word", TOP), TORN], on=False)

    def test_a_cut_at_a_wipe(self):
        flash = self.written(("cut",))
        assert_refused(self, Off, flash.wipe, 0)
        self.assert_state(flash, [TORN] * 3, on=False)
        flash.on()
        self.assertIs(flash.wipe(0), True)
        self.assert_state(flash, [BLANK] * 3, wipes=1, steps=4)

    def test_a_fault_waits_for_its_step(self):
        flash = self.written(("bad",))
        assert_refused(self, Written, flash.write, 0, 1, 5)
        flash.off()
        assert_refused(self, Off, flash.write, 0, 2, 5)
        flash.on()
        flash.peek(0, 0)
        self.assertIs(flash.write(0, 2, 5), False)

    def test_a_fault_that_is_past_strikes_no_more(self):
        flash = self.written(("cut",))
        assert_refused(self, Off, flash.read, 0, 0)
        flash.on()
        self.assertEqual([flash.read(0, 0) for _ in range(20)], [WORD] * 20)


class RefusalsTest(unittest.TestCase):
    def flash(self):
        """A word, a torn page and a blank one in block 0; block 1 failed, with a word and blank pages."""
        flash = Flash(2, 3, ((1, ("cut",)), (3, ("bad",))))
        flash.write(0, 0, WORD)
        assert_refused(self, Off, flash.write, 0, 1, WORD)
        flash.on()
        flash.write(1, 0, WORD)
        flash.write(1, 1, WORD)
        return flash

    def assert_stays(self, flash, error, call, *args):
        before = state_of(flash)
        assert_refused(self, error, call, *args)
        self.assertEqual(state_of(flash), before)

    def test_off_ahead_of_all_else(self):
        flash = self.flash()
        flash.off()
        for block, page, word in itertools.product([0, 1, 2, -1, None], [0, 1, 2, 3, None], [WORD, -1, None]):
            self.assert_stays(flash, Off, flash.read, block, page)
            self.assert_stays(flash, Off, flash.write, block, page, word)
            self.assert_stays(flash, Off, flash.wipe, block)

    def test_no_block(self):
        flash = self.flash()
        for block in [2, 3, 8, *NO_INDEXES]:
            for page, word in ((0, WORD), (1, WORD), (3, WORD), (None, None), (0, -1)):
                self.assert_stays(flash, NoBlock, flash.read, block, page)
                self.assert_stays(flash, NoBlock, flash.write, block, page, word)
            self.assert_stays(flash, NoBlock, flash.wipe, block)

    def test_no_page(self):
        flash = self.flash()
        for page in [3, 4, *NO_INDEXES]:
            for block, word in ((0, WORD), (1, WORD), (0, -1), (1, None)):
                self.assert_stays(flash, NoPage, flash.read, block, page)
                self.assert_stays(flash, NoPage, flash.write, block, page, word)

    def test_no_word(self):
        flash = self.flash()
        for word in NO_WORDS:
            for block, page in itertools.product(range(2), range(3)):
                self.assert_stays(flash, NoWord, flash.write, block, page, word)

    def test_written_ahead_of_bad(self):
        flash = self.flash()
        for block, page in ((0, 0), (0, 1), (1, 0), (1, 2)):
            self.assert_stays(flash, Written, flash.write, block, page, WORD)
        self.assert_stays(flash, Bad, flash.write, 1, 1, WORD)
        self.assert_stays(flash, Bad, flash.wipe, 1)

    def test_questions(self):
        flash = self.flash()
        for power in (flash.on, flash.off):
            power()
            for block in [2, *NO_INDEXES]:
                for call, args in ((flash.peek, (block, 0)), (flash.peek, (block, None)), (flash.wipes, (block,)),
                                   (flash.is_bad, (block,))):
                    self.assert_stays(flash, NoBlock, call, *args)
            for page in [3, *NO_INDEXES]:
                self.assert_stays(flash, NoPage, flash.peek, 1, page)

    def test_questions_need_no_power(self):
        flash = self.flash()
        on = state_of(flash)
        flash.off()
        off = state_of(flash)
        self.assertEqual(off[:3] + off[4:], on[:3] + on[4:])
        self.assertEqual(on, ([[("word", WORD), TORN, BLANK], [("word", WORD), BLANK, BLANK]], [0, 0], [False, True],
                              True, 4))
        self.assertEqual(state_of(flash), off)


class StepsTest(unittest.TestCase):
    def weathers(self):
        pick = choices(4000, 7)
        faults = [("cut",), ("bad",), ("bit", 0), ("bit", 46), ("bit", 17), ("cut",)]
        for many in (0, 1, 3, 10, 25, 40):
            for _ in range(4):
                steps = sorted({pick(range(90)) for _ in range(many)})
                yield tuple((step, pick(faults)) for step in steps)

    def deeds(self, pick, blocks, pages):
        """Mostly such as are let, some beyond."""
        blocks_asked = [*range(blocks), *range(blocks), blocks]
        pages_asked = [*range(pages), *range(pages), *range(pages), pages]
        for _ in range(150):
            deed = pick(["read", "write", "write", "write", "wipe"])
            block, page, word = pick(blocks_asked), pick(pages_asked), pick([0, WORD, TOP, 2 ** 40 + 5, 2 ** 47])
            yield deed, {"read": (block, page), "write": (block, page, word), "wipe": (block,)}[deed]

    def test_against_a_plain_flash(self):
        for seed, weather in enumerate(self.weathers()):
            pick = choices(2000, seed)
            blocks, pages = pick(range(1, 5)), pick(range(1, 5))
            flash, plain = Flash(blocks, pages, weather), PlainFlash(blocks, pages, weather)
            for deed, args in self.deeds(pick, blocks, pages):
                self.assertEqual(told_by(getattr(flash, deed), *args), plain.do(deed, *args), (weather, deed, args))
                self.assertEqual(state_of(flash), plain.state(), (weather, deed, args))
                if not flash.is_on() and pick([True, True, False]):
                    flash.on()
                    plain.power = True
                elif pick(range(20)) == 0:
                    flash.off()
                    plain.power = False

    def test_steps_up_to_the_last_one_of_a_weather(self):
        flash = Flash(1, 1, ((9998, ("bit", 1)), (9999, ("cut",))))
        flash.write(0, 0, 0)
        for _ in range(9997):
            flash.read(0, 0)
        self.assertEqual(flash.read(0, 0), 2)
        assert_refused(self, Off, flash.read, 0, 0)
        self.assertEqual(flash.steps(), 10000)
        flash.on()
        self.assertEqual([flash.read(0, 0), flash.steps()], [2, 10001])


class TwinTest(unittest.TestCase):
    WEATHER = ((1, ("cut",)), (2, ("bad",)), (4, ("bit", 2)), (5, ("cut",)), (6, ("bit", 0)))

    def flash(self):
        flash = Flash(3, 2, self.WEATHER)
        flash.write(0, 0, WORD)
        assert_refused(self, Off, flash.write, 0, 1, WORD)
        flash.on()
        flash.write(1, 0, WORD)
        flash.wipe(2)
        return flash

    def test_as_the_flash_was(self):
        for off in (True, False):
            flash = self.flash()
            if off:
                flash.off()
            self.assertEqual(state_of(flash.twin()), state_of(flash))
            self.assertEqual(state_of(flash), (
                [[("word", WORD), TORN], [BLANK] * 2, [BLANK] * 2], [0, 0, 1], [False, True, False], not off, 4))

    def test_with_what_the_weather_still_brings(self):
        flash = self.flash()
        for one in (flash.twin().twin(), flash.twin(), flash):
            self.assertEqual(one.read(0, 0), WORD ^ 4)
            assert_refused(self, Off, one.wipe, 0)
            one.on()
            self.assertIs(one.write(2, 0, 8), True)
            self.assertEqual(state_of(one), (
                [[TORN] * 2, [BLANK] * 2, [("word", 9), BLANK]], [0, 0, 1], [False, True, False], True, 7))

    def test_no_deed_of_one_turns_the_other(self):
        flash = self.flash()
        twin = flash.twin()
        for one, other in ((flash, twin), (twin.twin(), twin), (twin, flash)):
            before = state_of(other)
            self.assertEqual(one.read(0, 0), WORD ^ 4)
            one.off()
            one.on()
            # Step 5 is a cut.
            assert_refused(self, Off, one.write, 2, 0, 3)
            one.on()
            one.wipe(0)
            one.wipe(2)
            self.assertEqual(state_of(other), before)

    def test_a_block_that_fails_fails_by_itself(self):
        flash = Flash(1, 1, ((0, ("bad",)),))
        twin = flash.twin()
        self.assertIs(twin.wipe(0), False)
        self.assertEqual([flash.is_bad(0), twin.is_bad(0)], [False, True])
        self.assertIs(flash.write(0, 0, 1), False)

    def test_each_twin_is_another(self):
        flash = Flash(1, 1)
        one, other = flash.twin(), flash.twin()
        one.write(0, 0, 1)
        self.assertEqual([one.peek(0, 0), other.peek(0, 0), flash.peek(0, 0)], [("word", 1), BLANK, BLANK])

    def test_with_a_cut_in_the_place_of_what_is_there(self):
        flash = self.flash()
        before = state_of(flash)
        # Step 4 turns a bit of the page that is read; with a cut at it power goes instead.
        one, other = flash.with_cut(4), flash.with_cut(6)
        self.assertEqual([state_of(one), state_of(other)], [before] * 2)
        assert_refused(self, Off, one.read, 0, 0)
        one.on()
        self.assertEqual(one.peek(0, 0), ("word", WORD))
        assert_refused(self, Off, one.wipe, 0)
        self.assertEqual(other.read(0, 0), WORD ^ 4)
        self.assertEqual(state_of(flash), before)
        self.assertEqual(flash.read(0, 0), WORD ^ 4)


if __name__ == "__main__":
    unittest.main()
