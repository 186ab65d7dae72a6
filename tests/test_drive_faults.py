"""Points 51 to 55 where the weather strikes: cuts at each step, failed blocks, turned bits, and numbers used up."""

import unittest

from flashkeep.drives import Drive
from flashkeep.errors import NoRoom, Off, Over, Spoilt, Worn
from flashkeep.scans import free, scan
from helper import answered, built, driven, pages_on, put_down, state_of

PLAN = (4, 4, 3, True, True)
CUT, BAD = ("cut",), ("bad",)
# The next order that writes collects block 0, which holds the newest pages of places 1 and 2.
THREE_BLOCKS = [("write", 0, 5), ("group", ((1, 7), (2, 8)))] + [("write", 0, data) for data in range(10, 18)]
ORDERS = [
    ("write", 0, 30), ("write", 1, 31), ("trim", 2), ("group", ((2, 32), (0, 33), (1, 34))), ("group", ((1, 35),)),
    ("read", 1), ("mend",),
]


def put(block, *pages):
    return [("put", block, page) for page in pages]


class FaultTest(unittest.TestCase):
    def assert_refused_by(self, error, drive, order):
        with self.assertRaises(error) as caught:
            drive.do(order)
        self.assertIs(type(caught.exception), error)

    def assert_refused_for_nothing(self, error, drive, order):
        """It is refused, and nothing is turned, no step taken."""
        before = state_of(drive.flash())
        self.assert_refused_by(error, drive, order)
        self.assertEqual(state_of(drive.flash()), before)


class CutTest(FaultTest):
    def history_for(self, order):
        """Orders, and a weather that turned a bit of place 1, so that there is something to be mended."""
        return THREE_BLOCKS, ((2, ("bit", 9)),) if order == ("mend",) else ()

    def each_cut(self, plan, order):
        """Drives at which power went at each step of an order, which was refused."""
        orders, weather = self.history_for(order)
        whole = driven(plan, orders, weather)
        first = whole.steps()
        whole.do(order)
        for step in range(first, whole.steps()):
            drive = driven(plan, orders, (*weather, (step, CUT)))
            self.assertEqual(drive.steps(), first)
            before = drive.reads()
            self.assert_refused_by(Off, drive, order)
            self.assertEqual((drive.is_on(), drive.steps()), (False, step + 1))
            yield drive, before

    def test_at_each_step_of_each_kind(self):
        for sealed in (True, False):
            for order in ORDERS:
                if sealed or order != ("mend",):
                    many = 0
                    for drive, before in self.each_cut((4, 4, 3, sealed, True), order):
                        many += 1
                        self.assert_as_before(drive, before, order)
                    self.assertGreater(many, 0)

    def assert_as_before(self, drive, before, order):
        self.assertEqual(drive.reads(), before)
        self.assert_refused_for_nothing(Off, drive, order)
        drive.on()
        self.assertEqual(drive.reads(), before)
        other = drive.twin()
        row = list(before)
        for later in [("write", 0, 40), ("write", 0, 41), ("read", 1), ("write", 0, 42), ("mend",), ("write", 0, 43)]:
            other.do(later)
            row = put_down(row, later)
            self.assertEqual(other.reads(), tuple(row))
        drive.do(order)
        self.assertEqual(drive.reads(), tuple(put_down(before, order)))

    def test_again_and_again(self):
        drive = driven(PLAN, THREE_BLOCKS, tuple((step, CUT) for step in range(12, 40, 3)))
        before = drive.reads()
        while answered(drive, ("write", 2, 50)) == ("no", "off"):
            self.assertEqual(drive.reads(), before)
            drive.on()
        # At step 12 a read, at 15 the read of the other page, at 18 the wipe were cut; 19 wipes, 20 writes.
        self.assertEqual((drive.reads(), drive.steps()), ((17, 7, 50), 21))

    def test_a_group_may_be_done_in_part_where_commits_are_left_out(self):
        order = ("group", ((2, 32), (0, 33)))
        seen = [drive.reads() for drive, before in self.each_cut((5, 4, 3, True, False), order)]
        self.assertEqual(seen, [(17, 7, 8), (17, 7, 32)])

    def test_what_a_cut_tears(self):
        # The write, by which the member is copied, the wipe, and the write itself are torn.
        torn = {13: [(3, 0)], 16: [(0, 0), (0, 1), (0, 2), (0, 3)], 17: [(3, 2)], 12: []}
        for step, pages in torn.items():
            drive = driven(PLAN, THREE_BLOCKS, ((step, CUT),))
            self.assert_refused_by(Off, drive, ("write", 0, 18))
            cells = pages_on(PLAN, drive.flash())
            self.assertEqual([at for at in sorted(cells) if cells[at] == "torn"], pages)


class FailedWriteTest(FaultTest):
    def test_a_page_is_written_anew_behind_a_failed_block(self):
        drive = driven((5, 4, 3, True, True), [("write", 0, 5), ("write", 1, 7)], ((1, BAD),))
        pages = {(0, 0): ("write", 0, 1, 0, 5), (1, 0): ("write", 1, 2, 0, 7)}
        self.assertEqual(pages_on(drive.plan(), drive.flash()), pages)
        self.assertEqual((drive.steps(), drive.flash().is_bad(0), drive.reads()), (3, True, (5, 7, None)))
        # Ahead of the next page the failed block is collected, and not wiped.
        drive.do(("write", 2, 8))
        self.assertEqual(pages_on(drive.plan(), drive.flash()), {
            **pages, (1, 1): ("write", 0, 3, 0, 5), (1, 2): ("write", 2, 4, 0, 8),
        })
        self.assertEqual((drive.steps(), drive.flash().wipes(0)), (6, 0))
        # Then it has no newest page, and is left alone.
        drive.do(("write", 2, 9))
        self.assertEqual(drive.steps(), 7)

    def test_each_page_of_a_group(self):
        order = ("group", ((2, 1), (0, 2)))
        pages = [("member", 2, 1, 1, 1), ("member", 0, 2, 1, 2), ("commit", 0, 3, 1, 0)]
        for step in range(3):
            drive = driven(PLAN, [order], ((step, BAD),))
            at = [(0, page) for page in range(step)] + [(1, page) for page in range(3 - step)]
            self.assertEqual(pages_on(PLAN, drive.flash()), dict(zip(at, pages)))
            self.assertEqual((drive.reads(), drive.steps()), ((2, None, 1), 4))

    def test_a_page_that_is_copied(self):
        # Block 3, just opened for a copy, fails; no blank block is left: the order fails, and no place reads otherwise.
        drive = driven(PLAN, THREE_BLOCKS, ((13, BAD),))
        self.assert_refused_by(Worn, drive, ("write", 0, 18))
        self.assertEqual((drive.reads(), drive.steps(), drive.is_on()), ((17, 7, 8), 14, True))
        self.assert_refused_for_nothing(NoRoom, drive, ("write", 0, 18))

    def test_all_blocks_fail(self):
        drive = Drive(PLAN, tuple((step, BAD) for step in range(4)))
        self.assert_refused_by(Worn, drive, ("write", 0, 1))
        self.assertEqual((drive.steps(), drive.reads(), drive.is_on()), (4, (None, None, None), True))
        self.assert_refused_for_nothing(NoRoom, drive, ("write", 0, 1))
        self.assertEqual((drive.do(("read", 0)), drive.do(("trim", 0)), drive.do(("mend",))), (None, None, ()))

    def test_a_fault_of_a_read_is_none_by_a_bad_one(self):
        drive = driven(PLAN, [("write", 0, 5)], ((1, BAD),))
        self.assertEqual(drive.do(("read", 0)), 5)
        self.assertIs(drive.flash().is_bad(0), False)

    def test_failed_blocks_are_collected_first_and_rising(self):
        # Blocks 3 and 1 failed and hold places 1 and 0; block 0 would be next in its turn.
        plan = (6, 4, 3, True, True)
        deeds = put(0, *[("write", 9, 1, 0, 0)] * 4) + put(3, ("write", 1, 2, 0, 7)) + put(1, ("write", 0, 3, 0, 8))
        drive = Drive(plan, flash=built(plan, deeds + [("fail", 3), ("fail", 1)]))
        drive.do(("write", 2, 9))
        pages = pages_on(plan, drive.flash())
        self.assertEqual([pages[2, page] for page in range(3)], [
            ("write", 0, 4, 0, 8), ("write", 1, 5, 0, 7), ("write", 2, 6, 0, 9),
        ])
        self.assertEqual((drive.flash().wipes(0), drive.steps()), (0, 13))


class FailedWipeTest(FaultTest):
    def test_another_block_is_collected(self):
        drive = driven(PLAN, [*THREE_BLOCKS, ("write", 0, 18)], ((16, BAD),))
        flash = drive.flash()
        self.assertEqual([flash.is_bad(block) for block in range(4)], [True, False, False, False])
        self.assertEqual([flash.wipes(block) for block in range(4)], [0, 1, 0, 0])
        pages = pages_on(PLAN, flash)
        self.assertEqual([pages[3, page] for page in range(3)], [
            ("write", 1, 13, 0, 7), ("write", 2, 14, 0, 8), ("write", 0, 15, 0, 18),
        ])
        self.assertEqual((drive.steps(), drive.reads()), (19, (18, 7, 8)))

    def test_no_room_is_left_any_more(self):
        # Blocks 0 and 1 fail as they are wiped; block 2 has one newest page, which is moved, and fails, too.
        drive = driven(PLAN, THREE_BLOCKS, ((16, BAD), (17, BAD), (20, BAD)))
        self.assert_refused_by(Worn, drive, ("write", 0, 18))
        self.assertEqual((drive.steps(), drive.reads(), free(PLAN, drive.flash())), (21, (17, 7, 8), 1))
        self.assert_refused_for_nothing(NoRoom, drive, ("write", 0, 18))
        self.assertEqual([drive.do(("read", place)) for place in range(3)], [17, 7, 8])

    def test_it_ends_ahead_of_the_block_that_brings_no_room_any_more(self):
        # As blocks 0 and 1 fail, block 2 takes one of two that are free and gives four: five, but six are due.
        order = ("group", ((0, 18),))
        drive = driven(PLAN, THREE_BLOCKS, ((16, BAD), (17, BAD)))
        self.assert_refused_by(Worn, drive, order)
        self.assertEqual((drive.steps(), drive.flash().wipes(2), drive.reads()), (18, 0, (17, 7, 8)))


class RoomTest(FaultTest):
    def test_no_room_ahead_of_any_step(self):
        # Blocks 0 and 1 fail at once; seven pages are free behind the first order, and four are kept.
        drive = driven(PLAN, [("write", 0, 1)], ((0, BAD), (1, BAD)))
        self.assertEqual(drive.steps(), 3)
        self.assert_refused_for_nothing(NoRoom, drive, ("group", ((0, 2), (1, 3), (2, 4))))
        drive.do(("group", ((0, 2), (1, 3))))
        # Four are free now; block 2, full, would take two and give four.
        self.assert_refused_for_nothing(NoRoom, drive, ("group", ((0, 2), (1, 3))))
        drive.do(("write", 2, 5))
        self.assertEqual(drive.reads(), (2, 3, 5))

    def test_orders_that_write_nothing_go_on(self):
        drive = Drive(PLAN, flash=built(PLAN, put(0, ("write", 0, 1, 0, 9)) + [("fail", block) for block in range(4)]))
        self.assert_refused_for_nothing(NoRoom, drive, ("write", 0, 1))
        self.assert_refused_for_nothing(NoRoom, drive, ("trim", 0))
        self.assert_refused_for_nothing(NoRoom, drive, ("group", ((1, 1),)))
        self.assertEqual(drive.do(("read", 0)), 9)
        self.assertEqual((drive.do(("trim", 1)), drive.do(("read", 1)), drive.do(("mend",))), (None, None, ()))

    def test_a_group_of_more_rows_needs_more_room(self):
        for commits, most in [(True, 2), (False, 3)]:
            plan = (4, 4, 3, True, commits)
            drive = Drive(plan, flash=built(plan, put(2, ("write", 0, 1, 0, 9)) + [("fail", 0), ("fail", 1)]))
            for many in (3, 2, 1):
                rows = tuple((place, 1) for place in range(many))
                told = ("told", None) if many <= most else ("no", "room")
                self.assertEqual(answered(drive.twin(), ("group", rows)), told)

    def test_room_of_torn_pages_comes_back(self):
        drive = Drive(PLAN, tuple((step, CUT) for step in range(9)))
        for _ in range(9):
            self.assert_refused_by(Off, drive, ("write", 0, 1))
            drive.on()
        for data in range(20):
            drive.do(("write", 0, data))
        self.assertEqual(drive.reads(), (19, None, None))


class BitTest(FaultTest):
    def test_a_mended_page_reads_as_ever(self):
        for bit in range(47):
            for step in (0, 1):
                drive = driven(PLAN, [("write", 0, 5)], ((step, ("bit", bit)),))
                self.assertEqual((drive.do(("read", 0)), drive.do(("read", 0)), drive.reads()), (5, 5, (5, None, None)))

    def test_spoilt(self):
        drive = driven(PLAN, [("write", 0, 5)], ((0, ("bit", 3)), (1, ("bit", 40))))
        self.assertEqual(drive.reads(), (5, None, None))
        self.assert_refused_by(Spoilt, drive, ("read", 0))
        self.assertEqual((drive.steps(), drive.is_on(), drive.reads()), (2, True, (None, None, None)))
        # The page isn't read any more, so it is no newest one either.
        self.assertIsNone(drive.do(("read", 0)))
        self.assertEqual(drive.steps(), 2)

    def test_spoilt_ahead_of_an_older_page(self):
        drive = driven(PLAN, [("write", 0, 4), ("write", 0, 5)], ((1, ("bit", 3)), (2, ("bit", 40))))
        self.assert_refused_by(Spoilt, drive, ("read", 0))
        self.assertEqual(drive.do(("read", 0)), 4)

    def test_the_same_bit_twice(self):
        drive = driven(PLAN, [("write", 0, 5)], ((0, ("bit", 3)), (1, ("bit", 3))))
        self.assertEqual((drive.do(("read", 0)), drive.do(("mend",))), (5, ()))

    def test_without_seals_it_is_read_as_it_is(self):
        plan = (4, 4, 3, False, True)
        drive = driven(plan, [("write", 0, 5)], ((1, ("bit", 1)),))
        self.assertEqual((drive.do(("read", 0)), drive.reads()), (7, (7, None, None)))
        drive = driven(plan, [("write", 0, 5)], ((0, ("bit", 0)),))
        self.assertEqual((drive.do(("read", 0)), drive.do(("mend",))), (4, ()))
        drive = driven(plan, [("write", 0, 5)], ((1, ("bit", 43)),))
        self.assert_refused_by(Spoilt, drive, ("read", 0))

    def test_without_seals_the_data_is_told_whatever_else_the_page_has_become(self):
        # Bit 38 makes a trim of a write with data 0, bit 34 moves it to place 1.
        plan = (4, 4, 3, False, True)
        drive = driven(plan, [("write", 0, 0)], ((1, ("bit", 38)),))
        self.assertEqual((drive.do(("read", 0)), drive.reads()), (0, (None, None, None)))
        drive = driven(plan, [("write", 0, 9)], ((1, ("bit", 34)),))
        self.assertEqual((drive.do(("read", 0)), drive.reads()), (9, (None, 9, None)))

    def test_spoilt_pages_are_left_out_as_a_block_is_collected(self):
        # Place 1, turned as it was written, is turned again as it is read to be copied.
        drive = driven(PLAN, [*THREE_BLOCKS, ("write", 0, 18)], ((1, ("bit", 3)), (12, ("bit", 40))))
        self.assertEqual((drive.reads(), drive.steps()), ((18, None, 8), 17))
        pages = pages_on(PLAN, drive.flash())
        self.assertEqual([pages[3, page] for page in range(2)], [("write", 2, 13, 0, 8), ("write", 0, 14, 0, 18)])

    def test_a_page_is_copied_with_the_data_that_it_has_then(self):
        plan = (4, 4, 3, False, True)
        drive = driven(plan, [*THREE_BLOCKS, ("write", 0, 18)], ((12, ("bit", 4)), (14, ("bit", 34))))
        # Place 1 had 7, and has 23 as it is read; the page of place 2 says place 3 then, and is copied for place 2.
        self.assertEqual(drive.reads(), (18, 23, 8))
        pages = pages_on(plan, drive.flash())
        self.assertEqual([pages[3, page] for page in range(2)], [("write", 1, 13, 0, 23), ("write", 2, 14, 0, 8)])

    def test_a_page_that_is_a_trim_as_it_is_read_is_copied_as_one(self):
        plan = (4, 4, 3, False, True)
        orders = [("write", 1, 0), *[("write", 2, data) for data in range(3)], *THREE_BLOCKS[2:]]
        drive = driven(plan, [*orders, ("write", 0, 18)], ((12, ("bit", 38)),))
        self.assertEqual(drive.reads(), (18, None, 2))
        self.assertEqual(pages_on(plan, drive.flash())[3, 0], ("trim", 1, 13, 0, 0))

    def test_numbers_are_used_up_amid_an_order(self):
        plan = (4, 4, 3, False, True)
        flash = built(plan, put(0, ("write", 0, 8190, 0, 9)), ((0, ("bit", 33)),))
        drive = Drive(plan, flash=flash)
        # The first member has number 8191, and with bit 33 turned 16383, so that there is none for the second.
        self.assert_refused_by(Worn, drive, ("group", ((1, 2), (2, 3))))
        self.assertEqual((drive.steps(), drive.reads()), (2, (9, None, None)))
        self.assertEqual(pages_on(plan, drive.flash())[0, 1], ("member", 1, 16383, 8191, 2))
        self.assert_refused_for_nothing(Over, drive, ("write", 0, 1))

    def test_the_last_number_is_used(self):
        plan = (4, 4, 3, False, True)
        for rows, told in [(((1, 2),), ("told", None)), (((1, 2), (2, 3)), ("no", "worn"))]:
            # The first member has number 8190, and with bit 33 turned 16382; one page has a number yet.
            flash = built(plan, put(0, ("write", 0, 8189, 0, 9)), ((0, ("bit", 33)),))
            drive = Drive(plan, flash=flash)
            self.assertEqual(answered(drive, ("group", rows)), told)
            self.assertEqual((drive.steps(), scan(plan, drive.flash())[1]), (3, 16384))


class MendTest(FaultTest):
    def mended(self, places, history=(("write", 0, 1), ("write", 1, 2), ("write", 2, 3))):
        """A drive with a page written for each place, some with a bit turned."""
        return driven(PLAN, history, tuple((place, ("bit", place + 7)) for place in places))

    def test_which_places_are_moved_and_by_how_many_steps(self):
        for places in [(), (0,), (1,), (2,), (0, 2), (0, 1, 2)]:
            drive = self.mended(places)
            self.assertEqual(drive.do(("mend",)), places)
            self.assertEqual((drive.steps(), drive.reads()), (6 + 2 * len(places), (1, 2, 3)))
            self.assertEqual(drive.do(("mend",)), ())
            self.assertEqual((drive.steps(), drive.reads()), (9 + 2 * len(places), (1, 2, 3)))

    def test_where_they_are_moved(self):
        drive = self.mended((0, 2))
        drive.do(("mend",))
        pages = pages_on(PLAN, drive.flash())
        self.assertEqual((pages[0, 3], pages[1, 0]), (("write", 0, 4, 0, 1), ("write", 2, 5, 0, 3)))
        self.assertEqual(len(pages), 5)

    def test_places_without_a_page_take_no_step(self):
        drive = driven(PLAN, [("write", 1, 2)], ((0, ("bit", 0)),))
        self.assertEqual((drive.do(("mend",)), drive.steps()), ((1,), 4))
        self.assertEqual((Drive(PLAN).do(("mend",)), Drive(PLAN).steps()), ((), 0))

    def test_trims_and_members_are_mended_too(self):
        drive = driven(PLAN, [("write", 0, 1), ("trim", 0), ("group", ((2, 5),))], ((1, ("bit", 0)), (2, ("bit", 5))))
        self.assertEqual(drive.do(("mend",)), (0, 2))
        pages = pages_on(PLAN, drive.flash())
        self.assertEqual((pages[1, 0], pages[1, 1]), (("trim", 0, 5, 0, 0), ("write", 2, 6, 0, 5)))
        self.assertEqual(drive.reads(), (None, None, 5))

    def test_pages_that_are_not_newest_are_left(self):
        # A page that is newest no more, and a commit, hold turned bits.
        orders = [("write", 0, 1), ("write", 0, 2), ("group", ((1, 3),))]
        drive = driven(PLAN, orders, ((0, ("bit", 1)), (3, ("bit", 2))))
        self.assertEqual((drive.do(("mend",)), drive.steps()), ((), 6))

    def test_a_bit_that_is_turned_as_mend_reads(self):
        drive = driven(PLAN, [("write", 0, 1), ("write", 1, 2)], ((3, ("bit", 20)),))
        self.assertEqual((drive.do(("mend",)), drive.steps(), drive.reads()), ((1,), 6, (1, 2, None)))

    def test_a_page_that_is_spoilt_as_mend_reads_isn_t_moved(self):
        # At the first read of place 0 it is spoilt already; at the second one as it is to be copied.
        for step, steps in [(3, 7), (4, 8)]:
            drive = driven(PLAN, [("write", 0, 1), ("write", 1, 2), ("write", 2, 3)],
                           ((0, ("bit", 0)), (2, ("bit", 1)), (step, ("bit", 20))))
            self.assertEqual(drive.do(("mend",)), (2,))
            self.assertEqual((drive.steps() - 1, drive.reads()), (steps, (None, 2, 3)))

    def test_room_is_made_for_a_page(self):
        # Four pages are free, five due: block 0 is collected, so place 1 is moved, and then moved once more.
        drive = driven(PLAN, THREE_BLOCKS, ((1, ("bit", 0)),))
        self.assertEqual((drive.do(("mend",)), drive.reads()), ((1,), (17, 7, 8)))
        pages = pages_on(PLAN, drive.flash())
        self.assertEqual([pages[3, page] for page in range(3)], [
            ("write", 1, 13, 0, 7), ("write", 2, 14, 0, 8), ("write", 1, 15, 0, 7),
        ])
        # Reads of places 0 and 1, five steps for block 0, two for the page, a read of place 2.
        self.assertEqual(drive.steps(), 12 + 2 + 5 + 2 + 1)

    def test_a_page_that_is_lost_as_room_is_made(self):
        # Place 1 is spoilt as block 0 is collected: there is no newest page any more, and mend goes on.
        drive = driven(PLAN, THREE_BLOCKS, ((1, ("bit", 0)), (2, ("bit", 0)), (14, ("bit", 9))))
        self.assertEqual((drive.do(("mend",)), drive.reads()), ((), (17, None, 8)))
        # Reads of places 0 and 1; block 0: read, read, write, wipe; a read of place 2, which was moved meanwhile.
        self.assertEqual(drive.steps(), 12 + 2 + 4 + 1)

    def test_it_ends_where_there_is_no_room(self):
        flash = built(PLAN, [
            ("put", 0, ("write", 0, 1, 0, 5)), ("put", 0, ("write", 1, 2, 0, 6), 3),
            ("put", 0, ("write", 2, 3, 0, 7), 3), ("fail", 1), ("fail", 2), ("fail", 3),
        ])
        drive = Drive(PLAN, flash=flash)
        self.assertEqual((drive.do(("mend",)), drive.steps(), drive.reads()), ((), 8, (5, 6, 7)))

    def test_it_tells_those_moved_ahead_of_where_there_is_no_room(self):
        flash = built(PLAN, [
            ("put", 0, ("write", 0, 1, 0, 5), 1), ("put", 0, ("write", 1, 2, 0, 6)),
            ("put", 0, ("write", 2, 3, 0, 7), 3), ("fail", 2), ("fail", 3),
        ], ((2, BAD),))
        # Five pages are free, as many as are due for place 0. As it is copied block 0 fails, and wants two of three.
        drive = Drive(PLAN, flash=flash)
        self.assertEqual((drive.do(("mend",)), drive.steps(), drive.reads()), ((0,), 5 + 4 + 1 + 1, (5, 6, 7)))

    def test_it_ends_where_it_fails(self):
        # As place 1 is copied all good blocks with a blank page fail; place 2 isn't looked at any more.
        deeds = [
            ("put", 0, ("write", 0, 1, 0, 5), 1), ("put", 0, ("write", 1, 2, 0, 6), 2),
            ("put", 0, ("write", 2, 3, 0, 7), 3),
        ]
        drive = Drive(PLAN, flash=built(PLAN, deeds, tuple((step, BAD) for step in range(5, 9))))
        self.assertEqual((drive.do(("mend",)), drive.steps(), drive.reads()), ((0,), 3 + 8, (5, 6, 7)))

    def test_power_goes_amid_it(self):
        for step in range(3, 12):
            weather = tuple((place, ("bit", 7)) for place in range(3)) + ((step, CUT),)
            drive = driven(PLAN, [("write", 0, 1), ("write", 1, 2), ("write", 2, 3)], weather)
            self.assert_refused_by(Off, drive, ("mend",))
            self.assertEqual((drive.steps(), drive.reads()), (step + 1, (1, 2, 3)))
            drive.on()
            self.assertEqual(drive.do(("mend",)), tuple(range((step - 3) // 3, 3)))

    def test_it_ends_at_over(self):
        deeds = [
            ("put", 0, ("write", 0, 5, 0, 5)), ("put", 0, ("write", 1, 2, 0, 6), 3),
            ("put", 0, ("write", 2, 16000, 0, 7)),
        ]
        drive = Drive(PLAN, flash=built(PLAN, deeds))
        self.assertEqual((drive.do(("mend",)), drive.steps()), ((), 5))
        # Where all newest pages are good it isn't looked at.
        drive = Drive(PLAN, flash=built(PLAN, [deeds[0], deeds[2]]))
        self.assertEqual((drive.do(("mend",)), drive.steps()), ((), 4))


class OverTest(FaultTest):
    def test_the_last_order_that_is_begun(self):
        for order, many in [(("write", 1, 1), 1), (("trim", 0), 1), (("group", ((0, 1), (1, 2), (2, 3))), 4)]:
            drive = Drive(PLAN, flash=built(PLAN, put(0, ("write", 0, 15999, 0, 9))))
            drive.do(order)
            self.assertEqual(scan(PLAN, drive.flash())[1], 16000 + many)
            self.assert_refused_for_nothing(Over, drive, ("write", 2, 5))
            self.assert_refused_for_nothing(Over, drive, ("group", ((2, 5),)))

    def test_next_above_sixteen_thousand(self):
        drive = Drive(PLAN, flash=built(PLAN, put(0, ("write", 0, 16000, 0, 9))))
        for order in [("write", 0, 1), ("trim", 0), ("group", ((1, 1),))]:
            self.assert_refused_for_nothing(Over, drive, order)
        drive = Drive(PLAN, flash=built(PLAN, put(0, ("commit", 0, 16383, 5, 0))))
        self.assert_refused_for_nothing(Over, drive, ("write", 0, 1))

    def test_ahead_of_no_room(self):
        deeds = put(0, ("write", 0, 16000, 0, 9)) + [("fail", block) for block in range(4)]
        self.assert_refused_for_nothing(Over, Drive(PLAN, flash=built(PLAN, deeds)), ("write", 0, 1))

    def test_orders_that_write_nothing_are_done_on(self):
        drive = Drive(PLAN, flash=built(PLAN, put(0, ("write", 0, 16383, 0, 9), ("trim", 1, 16001, 0, 0))))
        self.assertEqual((drive.do(("read", 0)), drive.do(("read", 1)), drive.do(("read", 2))), (9, None, None))
        self.assertEqual((drive.do(("trim", 1)), drive.do(("trim", 2)), drive.do(("mend",))), (None, None, ()))

    def test_numbers_behind_it_are_used_by_the_order_that_is_begun(self):
        # A block is collected behind 16000, too.
        junk = ("write", 9, 1, 0, 0)
        deeds = put(0, ("write", 0, 15998, 0, 1), ("write", 1, 15999, 0, 2), junk, junk)
        deeds += put(1, *[junk] * 4) + put(2, *[junk] * 4)
        drive = Drive(PLAN, flash=built(PLAN, deeds))
        drive.do(("write", 2, 3))
        pages = pages_on(PLAN, drive.flash())
        self.assertEqual([pages[3, page] for page in range(3)], [
            ("write", 0, 16000, 0, 1), ("write", 1, 16001, 0, 2), ("write", 2, 16002, 0, 3),
        ])


if __name__ == "__main__":
    unittest.main()
