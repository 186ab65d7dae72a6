"""Point 60: wear, newest pages by block, and room as point 54 looks for it."""

import unittest

from flashkeep.errors import NoFlash, NoNumber
from flashkeep.flash import Flash
from flashkeep.wear import living, room, worn
from helper import FAR_NUMBERS, OTHER_KINDS, Look, assert_refused, built, filled, scattered_flashes, state_of

PLAN = (4, 4, 3, True, True)


def newest(block, *places):
    """Deeds that put pages of these places, newest as long as no other pages of them are put."""
    return [("put", block, ("write", place, 7, 0, 0)) for place in places]


class WornTest(unittest.TestCase):
    def test_the_fewest_and_the_most_wipes(self):
        wiped = [("wipe", 0)] * 3 + [("wipe", 1)] * 2 + [("wipe", 2)] + [("wipe", 3)] * 5
        self.assertEqual(worn(built(PLAN, [])), (0, 0))
        self.assertEqual(worn(built(PLAN, wiped)), (1, 5))
        self.assertEqual(worn(built(PLAN, wiped + [("wipe", 2)] * 6)), (2, 7))

    def test_failed_blocks_are_left_out(self):
        wiped = [("wipe", 0)] * 3 + [("wipe", 1)] * 2 + [("wipe", 3)] * 5
        self.assertEqual(worn(built(PLAN, wiped + [("fail", 2)])), (2, 5))
        self.assertEqual(worn(built(PLAN, wiped + [("fail", 3)])), (0, 3))
        self.assertEqual(worn(built(PLAN, wiped + [("fail", 2), ("fail", 3), ("fail", 0)])), (2, 2))

    def test_all_blocks_failed(self):
        self.assertIsNone(worn(built(PLAN, [("wipe", 1)] + [("fail", block) for block in range(4)])))

    def test_a_wipe_that_power_cut_is_none(self):
        self.assertEqual(worn(built(PLAN, [("tear all", 0)])), (0, 0))

    def test_flashes_of_no_plan(self):
        flash = Flash(1, 1)
        flash.wipe(0)
        flash.off()
        self.assertEqual(worn(flash), (1, 1))
        self.assertEqual(worn(flash=Flash(8, 1)), (0, 0))

    def test_no_flash(self):
        for thing in [*OTHER_KINDS, *FAR_NUMBERS, 0, PLAN, Flash]:
            assert_refused(self, NoFlash, worn, thing)


class LivingTest(unittest.TestCase):
    def test_by_hand(self):
        self.assertEqual(living(PLAN, built(PLAN, [])), (0, 0, 0, 0))
        self.assertEqual(living(PLAN, built(PLAN, filled(0, 3))), (0, 0, 0, 0))
        self.assertEqual(living(PLAN, built(PLAN, newest(0, 0, 2) + newest(3, 1))), (2, 0, 0, 1))
        self.assertEqual(living(PLAN, built(PLAN, newest(2, 0, 1, 2) + [("fail", 2)])), (0, 0, 3, 0))

    def test_pages_that_are_not_newest(self):
        self.assertEqual(living(PLAN, built(PLAN, newest(1, 0, 0, 0, 0))), (0, 1, 0, 0))
        older = [("put", 0, ("write", 0, 6, 0, 0)), ("put", 0, ("member", 1, 9, 9, 0)), ("put", 0, ("commit", 0, 1, 8, 0))]
        self.assertEqual(living(PLAN, built(PLAN, older + newest(2, 0))), (0, 0, 1, 0))

    def test_trims_and_members_that_count(self):
        rows = [("trim", 0, 9, 0, 0), ("member", 1, 8, 8, 3), ("commit", 0, 1, 8, 0)]
        self.assertEqual(living(PLAN, built(PLAN, [("put", 1, row) for row in rows])), (0, 2, 0, 0))

    def test_by_names_in_another_order(self):
        self.assertEqual(living(flash=built(PLAN, newest(3, 1)), plan=PLAN), (0, 0, 0, 1))


class RoomTest(unittest.TestCase):
    def assert_room(self, greatest, deeds, plan=PLAN):
        """There is room for up to so many pages, and for none where that is 0."""
        flash = built(plan, deeds)
        due = [many <= greatest for many in range(1, 6)]
        self.assertEqual([room(plan, flash, many) for many in range(1, 6)], due, deeds)

    def test_a_blank_flash(self):
        self.assert_room(5, [])
        self.assert_room(5, [], (3, 6, 1, True, True))

    def test_free_pages_alone(self):
        # Of nine pages that are free four are kept, of eight, seven, ... likewise; no block is there to be collected.
        fail = [("fail", 3)]
        self.assert_room(5, fail + filled(0, 3))
        self.assert_room(4, fail + [("fail", 2)])
        self.assert_room(3, fail + [("fail", 2)] + filled(0, 1))
        self.assert_room(1, fail + [("fail", 2)] + filled(0, 3))
        self.assert_room(0, fail + [("fail", 2)] + [("fail", 1)])

    def test_full_blocks_give_what_they_have_not_to_keep(self):
        full = filled(1, 4) + filled(2, 4)
        # Free is 4; block 0 takes 3 and gives 4; blocks 1 and 2 give 4 each.
        self.assert_room(5, newest(0, 0, 1, 2) + filled(0, 1) + full)
        # Free is 3; block 0 takes all three that are free.
        self.assert_room(5, newest(0, 0, 1, 2) + filled(0, 1) + full + filled(3, 1))
        # Free is 2; block 0 takes three.
        self.assert_room(0, newest(0, 0, 1, 2) + filled(0, 1) + full + filled(3, 2))

    def test_it_ends_where_it_is_enough(self):
        # Free is 4, and 8 behind block 0; only for the fifth page block 1 is looked at, which takes 3 of 8.
        self.assert_room(5, filled(0, 4) + newest(1, 0, 1, 2) + filled(1, 1) + [("fail", 2)])
        # Free is 1, and 5 behind block 0, enough for one page; block 1 takes one and gives four: eight, and four are kept.
        self.assert_room(4, filled(0, 4) + newest(1, 0) + filled(1, 3) + [("fail", 2)] + filled(3, 3))
        # Free is 1; block 0 takes one of it; block 1 takes none of 4; that is eight, and four are kept.
        self.assert_room(4, newest(0, 0) + filled(0, 3) + filled(1, 4) + [("fail", 2)] + filled(3, 3))

    def test_a_block_ahead_that_takes_too_much(self):
        # By wipes block 1 comes first and takes 2, free is 1; block 0 would give 4.
        full = filled(0, 4) + newest(1, 0, 1) + filled(1, 2) + filled(2, 4) + filled(3, 3)
        self.assert_room(0, [("wipe", 0)] + [("wipe", 2)] * 2 + full)
        self.assert_room(5, [("wipe", 1)] + full)

    def test_no_page_is_free(self):
        full = filled(1, 4) + filled(2, 4) + filled(3, 4)
        self.assert_room(5, filled(0, 4) + full)
        self.assert_room(0, newest(0, 0) + filled(0, 3) + full)

    def test_a_second_block_that_is_begun_gives_a_whole_block(self):
        # Head is (0, 3): one page is free; block 1, with a page written, gives four; blocks 2 and 3 failed.
        fail = [("fail", 2), ("fail", 3)]
        self.assert_room(1, filled(0, 3) + filled(1, 1) + fail)
        self.assert_room(0, filled(0, 3) + newest(1, 0) + fail)

    def test_failed_blocks_take_their_newest_pages(self):
        # Free is 8: block 2 takes two, so six are left, and four kept.
        self.assert_room(2, newest(2, 0, 1) + [("fail", 2), ("fail", 3)])
        # Blocks 2 and 3 take three together.
        self.assert_room(1, newest(2, 0, 1) + newest(3, 2) + [("fail", 2), ("fail", 3)])
        # A failed block without newest pages takes none.
        self.assert_room(4, filled(2, 3) + [("fail", 2), ("fail", 3)])

    def test_failed_blocks_that_take_all_or_too_much(self):
        fail = [("fail", 2), ("fail", 3)]
        # One page is free; block 2 takes it, and block 1, full and dead, gives four: none beyond those kept.
        self.assert_room(0, newest(2, 0) + fail + filled(0, 3) + filled(1, 4))
        # With both of them full and dead, and one page free: nought, four, eight.
        plan = (5, 4, 3, True, True)
        self.assert_room(4, newest(2, 0) + fail + filled(0, 3) + filled(1, 4) + filled(4, 4), plan)
        # Two are taken of one that is free.
        self.assert_room(0, newest(2, 0, 1) + fail + filled(0, 3) + filled(1, 4) + filled(4, 4), plan)
        # One by each, of one that is free.
        self.assert_room(0, newest(2, 0) + newest(3, 1) + fail + filled(0, 3) + filled(1, 4) + filled(4, 4), plan)

    def test_all_blocks_failed(self):
        self.assert_room(0, [("fail", block) for block in range(4)])

    def test_torn_pages_are_lost_until_they_are_wiped(self):
        fail = [("fail", 2), ("fail", 3)]
        self.assert_room(3, fail + [("tear", 0)])
        self.assert_room(4, fail + [("tear all", 0)])

    def test_no_number(self):
        flash = built(PLAN, [])
        for many in [0, 6, 7, -1, *FAR_NUMBERS, *OTHER_KINDS]:
            assert_refused(self, NoNumber, room, PLAN, flash, many)
            assert_refused(self, NoNumber, room, many=many, flash=flash, plan=PLAN)

    def test_by_names_in_another_order(self):
        flash = built(PLAN, filled(0, 3) + filled(1, 1) + [("fail", 2), ("fail", 3)])
        self.assertIs(room(many=1, flash=flash, plan=PLAN), True)
        self.assertIs(room(many=2, plan=PLAN, flash=flash), False)


class ScatteredTest(unittest.TestCase):
    def test_by_the_words_of_the_points(self):
        seen = []
        for plan, flash in scattered_flashes(400):
            look = Look(plan, flash)
            self.assertEqual(worn(flash), look.worn())
            self.assertEqual(living(plan, flash), look.living())
            told = [room(plan, flash, many) for many in range(1, 6)]
            self.assertEqual(told, [look.room(many) for many in range(1, 6)])
            seen.append(sum(told))
        self.assertEqual(sorted(set(seen)), [0, 1, 2, 3, 4, 5])

    def test_told_twice_without_power_and_nothing_is_turned(self):
        for plan, flash in scattered_flashes(40):
            on = [worn(flash), living(plan, flash), room(plan, flash, 3)]
            flash.off()
            before = state_of(flash)
            for _ in range(2):
                self.assertEqual([worn(flash), living(plan, flash), room(plan, flash, 3)], on)
            self.assertEqual(state_of(flash), before)


if __name__ == "__main__":
    unittest.main()
