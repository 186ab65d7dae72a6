"""Points 52 to 55: which page is written where, by which number, and what is moved for it, page by page."""

import unittest

from flashkeep.drives import Drive
from flashkeep.scans import scan
from helper import (
    FAULTS_OF_DEEDS, PlainDrive, answered, built, choices, driven, pages_on, scattered_deeds, scattered_order,
    scattered_plan, scattered_weather, state_of,
)

PLAN = (4, 4, 3, True, True)
# Block 0 holds a page of place 0 that is newest no more, and those of places 1 and 2; blocks 1 and 2 hold place 0.
THREE_BLOCKS = [("write", 0, 5), ("group", ((1, 7), (2, 8)))] + [("write", 0, data) for data in range(10, 18)]
AT_FIRST = {
    (0, 0): ("write", 0, 1, 0, 5),
    (0, 1): ("member", 1, 2, 2, 7),
    (0, 2): ("member", 2, 3, 2, 8),
    (0, 3): ("commit", 0, 4, 2, 0),
}


def of_place_0(numbers):
    """The pages that the writes of THREE_BLOCKS bring, from block 1 on."""
    return {(number - 1 >> 2, number - 1 & 3): ("write", 0, number, 0, number + 5) for number in numbers}


def wipes_of(flash):
    return [flash.wipes(block) for block in range(flash.blocks())]


class PagesTest(unittest.TestCase):
    def assert_drive(self, drive, pages, wipes, steps):
        flash = drive.flash()
        self.assertEqual(pages_on(drive.plan(), flash), pages)
        self.assertEqual((wipes_of(flash), flash.steps()), (wipes, steps))

    def test_pages_are_written_one_behind_the_other(self):
        drive = driven(PLAN, THREE_BLOCKS[:2])
        self.assert_drive(drive, AT_FIRST, [0, 0, 0, 0], 4)
        self.assertEqual(scan(PLAN, drive.flash()), (((0, 0), (0, 1), (0, 2)), 5, None))

    def test_a_head_that_is_left_and_a_block_that_is_opened(self):
        drive = driven(PLAN, THREE_BLOCKS[:3])
        self.assert_drive(drive, {**AT_FIRST, (1, 0): ("write", 0, 5, 0, 10)}, [0, 0, 0, 0], 5)
        self.assertEqual(scan(PLAN, drive.flash())[2], (1, 1))

    def test_as_long_as_there_is_room_nothing_is_collected(self):
        # Ahead of the twelfth page five are free: one, and the four that a block has.
        self.assert_drive(driven(PLAN, THREE_BLOCKS), {**AT_FIRST, **of_place_0(range(5, 13))}, [0] * 4, 12)

    def test_a_block_is_collected(self):
        drive = driven(PLAN, THREE_BLOCKS + [("write", 0, 18)])
        moved = {(3, 0): ("write", 1, 13, 0, 7), (3, 1): ("write", 2, 14, 0, 8), (3, 2): ("write", 0, 15, 0, 18)}
        self.assert_drive(drive, {**of_place_0(range(5, 13)), **moved}, [1, 0, 0, 0], 18)
        self.assertEqual(drive.reads(), (18, 7, 8))

    def test_a_member_that_was_moved_hangs_on_no_commit(self):
        # A write of place 1 collects block 0, and the commit is gone with it.
        drive = driven(PLAN, THREE_BLOCKS + [("write", 1, 18)])
        self.assertFalse([page for page in pages_on(PLAN, drive.flash()).values() if page[0] == "commit"])
        self.assertEqual(drive.reads(), (17, 18, 8))

    def test_two_blocks_are_collected_for_a_group(self):
        # Five pages are free, eight are due. Block 0 brings two more, block 1 has no newest page and brings four.
        drive = driven(PLAN, THREE_BLOCKS[:-1] + [("group", ((2, 1), (0, 2), (1, 3)))])
        pages = {
            (2, 3): ("write", 1, 12, 0, 7),
            (3, 0): ("write", 2, 13, 0, 8),
            (3, 1): ("member", 2, 14, 14, 1),
            (3, 2): ("member", 0, 15, 14, 2),
            (3, 3): ("member", 1, 16, 14, 3),
            (0, 0): ("commit", 0, 17, 14, 0),
        }
        self.assert_drive(drive, {**of_place_0(range(9, 12)), **pages}, [1, 1, 0, 0], 21)
        self.assertEqual(drive.reads(), (2, 3, 1))

    def test_a_group_without_commits_needs_a_page_less(self):
        plan = (4, 4, 3, True, False)
        orders = [("write", 0, 5), ("group", ((1, 7), (2, 8))), *[("write", 0, data) for data in range(10, 16)]]
        # Nine pages are written, seven free: three rows and four pages are seven.
        drive = driven(plan, [*orders, ("group", ((2, 1), (0, 2), (1, 3)))])
        pages = {
            (0, 0): ("write", 0, 1, 0, 5), (0, 1): ("write", 1, 2, 0, 7), (0, 2): ("write", 2, 3, 0, 8),
            (0, 3): ("write", 0, 4, 0, 10),
            **{at: (*page[:4], page[4] + 1) for at, page in of_place_0(range(5, 10)).items()},
            (2, 1): ("write", 2, 10, 0, 1), (2, 2): ("write", 0, 11, 0, 2), (2, 3): ("write", 1, 12, 0, 3),
        }
        self.assert_drive(drive, pages, [0] * 4, 12)

    def test_a_trim_is_moved_as_a_trim(self):
        orders = [("write", 1, 7), ("write", 2, 8), ("trim", 1), ("write", 2, 9)]
        drive = driven(PLAN, orders + [("write", 0, data) for data in range(10, 19)])
        moved = {(3, 0): ("trim", 1, 13, 0, 0), (3, 1): ("write", 2, 14, 0, 9), (3, 2): ("write", 0, 15, 0, 18)}
        self.assert_drive(drive, {**of_place_0(range(5, 13)), **moved}, [1, 0, 0, 0], 18)
        self.assertEqual(drive.reads(), (18, None, 9))

    def test_blocks_are_opened_and_collected_by_fewest_wipes(self):
        drive = Drive((4, 4, 1, True, True))
        seen = []
        for data in range(40):
            drive.do(("write", 0, data))
            flash = drive.flash()
            seen.append((scan(drive.plan(), flash)[0][0][0], wipes_of(flash)))
        # A block is opened only for the newest page of the one place; the other blocks are wiped as they are full.
        self.assertEqual([block for block, wipes in seen[::4]], [0, 1, 2, 3, 0, 1, 2, 3, 0, 1])
        wipes = [wipes for block, wipes in seen[11:24:4]]
        self.assertEqual(wipes, [[0, 0, 0, 0], [1, 0, 0, 0], [1, 1, 0, 0], [1, 1, 1, 0]])

    def test_numbers_go_on_behind_pages_that_do_not_count(self):
        deeds = [("put", 1, ("member", 2, 900, 900, 5)), ("put", 2, ("write", 9, 40, 0, 0))]
        drive = Drive(PLAN, flash=built(PLAN, deeds))
        drive.do(("group", ((1, 3),)))
        self.assertEqual(pages_on(PLAN, drive.flash()), {
            (1, 0): ("member", 2, 900, 900, 5), (2, 0): ("write", 9, 40, 0, 0),
            (1, 1): ("member", 1, 901, 901, 3), (1, 2): ("commit", 0, 902, 901, 0),
        })

    def test_a_trim_that_writes_makes_room_for_one_page(self):
        drive = driven(PLAN, THREE_BLOCKS)
        drive.do(("trim", 2))
        moved = {(3, 0): ("write", 1, 13, 0, 7), (3, 1): ("write", 2, 14, 0, 8), (3, 2): ("trim", 2, 15, 0, 0)}
        self.assert_drive(drive, {**of_place_0(range(5, 13)), **moved}, [1, 0, 0, 0], 18)

    def test_orders_that_write_nothing_collect_nothing(self):
        drive = driven(PLAN, [("trim", 2), *THREE_BLOCKS[:-1], ("trim", 1)])
        before = pages_on(PLAN, drive.flash())
        for order in [("trim", 1), ("read", 1), ("read", 0), ("mend",)]:
            drive.do(order)
        self.assertEqual(pages_on(PLAN, drive.flash()), before)
        self.assertEqual(wipes_of(drive.flash()), [0] * 4)


class ByHandTest(unittest.TestCase):
    """Flashes that no drive writes so."""

    def test_a_second_block_that_is_begun_is_head_behind_the_first(self):
        plan = (3, 6, 1, True, True)
        junk = ("write", 9, 1, 0, 0)
        deeds = [("put", 0, junk)] * 5 + [("put", 1, ("write", 0, 2, 0, 5)), ("put", 2, junk)]
        drive = Drive(plan, flash=built(plan, deeds))
        # One page is free, seven are due: block 1 takes it and gives six; then the five of block 2 are free, too.
        self.assertEqual(answered(drive, ("write", 0, 6)), ("told", None))
        self.assertEqual(pages_on(plan, drive.flash()), {
            **{(0, page): junk for page in range(5)}, (0, 5): ("write", 0, 3, 0, 5),
            (2, 0): junk, (2, 1): ("write", 0, 4, 0, 6),
        })
        self.assertEqual(wipes_of(drive.flash()), [0, 1, 0])

    def test_pages_that_are_copied_into_their_own_block(self):
        plan = (3, 8, 3, True, True)
        junk = ("write", 9, 1, 0, 0)
        deeds = [("put", 0, junk)] * 7 + [("put", 1, ("write", place, 2, 0, place + 5)) for place in (0, 1)]
        drive = Drive(plan, flash=built(plan, deeds))
        # Nine pages are free, eleven due: block 1 is collected. Behind one copy it is head itself, so that the page of
        # place 1 goes through all that is left of it, and at last to block 2.
        self.assertEqual(answered(drive, ("group", ((0, 1), (2, 2)))), ("told", None))
        self.assertEqual(pages_on(plan, drive.flash()), {
            **{(0, page): junk for page in range(7)}, (0, 7): ("write", 0, 3, 0, 5),
            (2, 0): ("write", 1, 10, 0, 6), (2, 1): ("member", 0, 11, 11, 1), (2, 2): ("member", 2, 12, 11, 2),
            (2, 3): ("commit", 0, 13, 11, 0),
        })
        self.assertEqual((wipes_of(drive.flash()), drive.steps()), ([0, 1, 0], 29))


class ScatteredTest(unittest.TestCase):
    def test_by_the_words_of_the_points(self):
        seen = set()
        for seed in range(250):
            pick = choices(6000, seed)
            plan = scattered_plan(pick)
            deeds = scattered_deeds(pick, plan, pick([0, 5, 20, 40, 80]))
            left = 40 - sum(deed[0] in FAULTS_OF_DEEDS for deed in deeds)
            faults = pick([["cut"], ["bad"], ["bit"], ["cut", "bad", "bit"]])
            flash = built(plan, deeds, scattered_weather(pick, left, faults, pick([20, 60, 150])))
            drive, plain = Drive(plan, flash=flash), PlainDrive(plan, flash)
            for _ in range(pick([5, 10, 20])):
                order = scattered_order(pick, plan)
                told = plain.answer(order)
                self.assertEqual(answered(drive, order), told)
                self.assertEqual(state_of(drive.flash()), state_of(flash))
                self.assertEqual(drive.reads(), plain.reads())
                seen.add((order[0], told if told[0] == "no" else told[1] not in (None, ())))
                drive.on()
                flash.on()
        writing = [(kind, ("no", word)) for kind in ("write", "trim", "group") for word in ("off", "room", "worn")]
        due = {("read", ("no", "spoilt")), ("read", True), ("mend", True), ("mend", ("no", "off")), *writing}
        self.assertLessEqual(due, seen)


if __name__ == "__main__":
    unittest.main()
