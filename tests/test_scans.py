"""Points 41 and 42: the look over all pages, and which block is opened and collected next."""

import unittest

from flashkeep.scans import free, scan, to_collect, to_open
from helper import Look, built, filled, scattered_flashes, state_of

PLAN = (4, 4, 3, True, True)
PLAIN = (4, 4, 3, False, False)
NONE = (None, None, None)


def write(place, number, data=0):
    return ("write", place, number, 0, data)


def trim(place, number):
    return ("trim", place, number, 0, 0)


def member(place, number, group):
    return ("member", place, number, group, 5)


def commit(number, group):
    return ("commit", 0, number, group, 0)


def put(block, *rows):
    """Deeds that put fields, each row fields or (fields, bits to turn ..)."""
    return [("put", block, *(row if isinstance(row[0], tuple) else (row,))) for row in rows]


class ScanTest(unittest.TestCase):
    def assert_newest(self, newest, number, deeds, plan=PLAN):
        flash = built(plan, deeds)
        before = state_of(flash)
        self.assertEqual(scan(plan, flash)[:2], (newest, number))
        self.assertEqual(state_of(flash), before)

    def both(self):
        """Plans with all that seals and commits can be; what counts hangs on no plan's commits."""
        return [(4, 4, 3, sealed, commits) for sealed in (True, False) for commits in (True, False)]

    def test_nothing_written_at_all(self):
        for plan in self.both():
            self.assertEqual(scan(plan, built(plan, [])), (NONE, 1, None))

    def test_writes(self):
        for plan in self.both():
            self.assert_newest((None, (0, 0), None), 2, put(0, write(1, 1)), plan)
            self.assert_newest(((0, 2), (0, 0), (0, 1)), 8, put(0, write(1, 1), write(2, 3), write(0, 7)), plan)
            self.assert_newest(((1, 0), None, None), 4, put(0, write(0, 2)) + put(1, write(0, 3)), plan)
            self.assert_newest(((0, 0), None, None), 4, put(0, write(0, 3)) + put(1, write(0, 2)), plan)

    def test_a_trim_is_a_newest_page(self):
        for plan in self.both():
            self.assert_newest(((0, 1), None, None), 3, put(0, write(0, 1), trim(0, 2)), plan)
            self.assert_newest(((0, 2), None, None), 4, put(0, write(0, 1), trim(0, 2), write(0, 3)), plan)
            self.assert_newest((None, None, (0, 0)), 1, put(0, trim(2, 0)), plan)

    def test_members_count_by_a_commit(self):
        for plan in self.both():
            self.assert_newest(NONE, 3, put(0, member(0, 1, 1), member(1, 2, 1)), plan)
            self.assert_newest(((0, 0), (0, 1), None), 4, put(0, member(0, 1, 1), member(1, 2, 1), commit(3, 1)), plan)
            self.assert_newest(NONE, 4, put(0, member(0, 1, 1), member(1, 2, 1), commit(3, 2)), plan)
            self.assert_newest((None, (2, 0), None), 6, put(1, commit(5, 9)) + put(2, member(1, 2, 9)), plan)

    def test_a_member_without_a_commit_hides_nothing(self):
        self.assert_newest(((0, 0), None, None), 10, put(0, write(0, 1), member(0, 9, 9)))

    def test_a_commit_counts_for_no_place(self):
        self.assert_newest(NONE, 9, put(0, commit(8, 3)))
        self.assert_newest(((0, 0), None, None), 9, put(0, write(0, 2), commit(8, 3)))

    def test_groups_of_writes_are_no_commits(self):
        # The group of a write is 0, and no commit of the group 0 is read by that.
        self.assert_newest(((0, 0), None, None), 4, put(0, write(0, 2), member(1, 3, 0)))
        self.assert_newest(((0, 0), (0, 1), None), 5, put(0, write(0, 2), member(1, 3, 0), commit(4, 0)))

    def test_a_commit_is_read_or_not(self):
        group = [member(0, 1, 1), (commit(2, 1), 7)]
        self.assert_newest(((0, 0), None, None), 3, put(0, *group))
        self.assert_newest(NONE, 2, put(0, member(0, 1, 1), (commit(2, 1), 7, 8)))
        self.assert_newest(NONE, 2, put(0, member(0, 1, 1)) + [("tear", 0)])

    def test_numbers_alike(self):
        self.assert_newest(((0, 1), None, None), 6, put(0, write(0, 4), write(0, 5), write(0, 5)) + put(1, trim(0, 5)))
        self.assert_newest(((1, 0), None, None), 6, put(2, write(0, 5)) + put(1, write(0, 5)))
        self.assert_newest(((0, 0), None, None), 6, put(0, trim(0, 5), write(0, 5)))
        self.assert_newest(((0, 1), None, None), 6, put(0, member(0, 5, 5), trim(0, 5)))

    def test_numbers_at_their_ends(self):
        self.assert_newest(((0, 0), None, None), 1, put(0, write(0, 0), write(0, 0)))
        self.assert_newest(((0, 1), None, None), 16384, put(0, write(0, 16382), write(0, 16383)))

    def test_places_beyond_the_plans(self):
        self.assert_newest((None, None, (0, 1)), 10, put(0, write(3, 9), write(2, 1), write(15, 8), trim(3, 4)))
        self.assert_newest(NONE, 10, put(0, member(3, 9, 4), commit(5, 4)))

    def test_a_mended_page_is_read(self):
        for bit in range(47):
            self.assert_newest((None, (0, 1), None), 4, put(0, write(1, 2), (write(1, 3), bit)))

    def test_a_spoilt_page_is_not_read(self):
        for bit in range(1, 47):
            self.assert_newest((None, (0, 0), None), 3, put(0, write(1, 2), (write(1, 9), 0, bit)))

    def test_words_that_are_not_sealed(self):
        # Bit 20 is the least of the number, 34 of the place, 40 the first beyond.
        self.assert_newest((None, (0, 0), None), 10, put(0, (write(1, 8), 20)), PLAIN)
        self.assert_newest(((0, 0), None, None), 9, put(0, (write(1, 8), 34)), PLAIN)
        self.assert_newest(NONE, 1, put(0, (write(1, 8), 40)), PLAIN)
        # A write in a group is none.
        self.assert_newest(NONE, 1, put(0, (write(1, 8), 6)), PLAIN)

    def test_sealed_words_by_a_plan_without_seals(self):
        flash = built(PLAN, put(0, write(0, 1)))
        self.assertEqual(scan(PLAIN, flash)[:2], (NONE, 1))

    def test_a_word_that_is_no_page_is_still_written(self):
        flash = built(PLAN, [("put", 0, 2 ** 47 - 1)])
        self.assertEqual(scan(PLAN, flash), (NONE, 1, (0, 1)))

    def test_failed_blocks_are_read(self):
        flash = built(PLAN, put(0, write(0, 1), member(1, 2, 2), commit(3, 2)) + [("fail", 0)])
        self.assertEqual(scan(PLAN, flash), (((0, 0), (0, 1), None), 4, None))

    def test_a_wiped_page_is_gone(self):
        self.assert_newest(((0, 0), None, None), 2, put(0, write(0, 1)) + put(1, write(0, 2)) + [("wipe", 1)])
        self.assert_newest(((0, 0), None, None), 2, put(0, write(0, 1)) + put(1, write(0, 2)) + [("tear all", 1)])

    def test_all_that_a_plan_without_commits_has(self):
        self.assert_newest(((0, 0), None, None), 3, put(0, member(0, 1, 1), commit(2, 1)), PLAIN)

    def test_by_names_in_another_order(self):
        flash = built(PLAN, put(0, write(0, 1)))
        self.assertEqual(scan(flash=flash, plan=PLAN), (((0, 0), None, None), 2, (0, 1)))

    def test_kinds_of_what_is_told(self):
        newest, number, head = told = scan(PLAN, built(PLAN, put(0, write(0, 1))))
        self.assertEqual([type(part) for part in (told, newest, newest[0], number, head)], [tuple] * 3 + [int, tuple])


class HeadTest(unittest.TestCase):
    def assert_head(self, due, deeds):
        self.assertEqual(scan(PLAN, built(PLAN, deeds))[2], due, deeds)

    def test_behind_what_is_written(self):
        for many, due in enumerate([None, (2, 1), (2, 2), (2, 3), None]):
            self.assert_head(due, filled(2, many))

    def test_the_least_block(self):
        self.assert_head((1, 3), filled(3, 1) + filled(1, 3) + filled(2, 2))
        self.assert_head((2, 2), filled(3, 1) + filled(1, 4) + filled(2, 2))

    def test_behind_torn_pages(self):
        self.assert_head((0, 1), [("tear", 0)])
        self.assert_head((0, 3), filled(0, 1) + [("tear", 0)] + filled(0, 1))
        self.assert_head(None, [("tear all", 0)])
        self.assert_head(None, filled(0, 3) + [("tear", 0)])

    def test_not_in_a_failed_block(self):
        self.assert_head(None, filled(0, 1) + [("fail", 0)])
        self.assert_head((3, 1), filled(0, 1) + filled(3, 1) + [("fail", 0)])

    def test_not_in_a_wiped_block(self):
        self.assert_head(None, filled(0, 1) + [("wipe", 0)])


class BlocksTest(unittest.TestCase):
    def assert_told(self, opened, pages, collected, deeds, plan=PLAN):
        flash = built(plan, deeds)
        told = [to_open(plan, flash), free(plan, flash), to_collect(plan, flash)]
        self.assertEqual(told, [opened, pages, collected], deeds)

    def test_nothing_written_at_all(self):
        self.assert_told(0, 16, None, [])

    def test_head_alone(self):
        self.assert_told(1, 15, None, filled(0, 1))
        self.assert_told(0, 13, None, filled(1, 3))

    def test_full_blocks(self):
        self.assert_told(1, 12, 0, filled(0, 4))
        self.assert_told(3, 4, 0, filled(2, 4) + filled(1, 4) + filled(0, 4))
        self.assert_told(None, 0, 0, filled(2, 4) + filled(1, 4) + filled(0, 4) + filled(3, 4))

    def test_a_second_block_that_is_begun(self):
        self.assert_told(0, 11, 2, filled(1, 1) + filled(2, 1))

    def test_torn_pages_and_blocks(self):
        self.assert_told(1, 15, None, [("tear", 0)])
        self.assert_told(1, 12, 0, [("tear all", 0)])
        self.assert_told(1, 12, 0, [("tear", 0)] * 4)

    def test_opened_by_fewest_wipes(self):
        wiped = [("wipe", 0)] * 2 + [("wipe", 1)] + [("wipe", 3)]
        self.assert_told(2, 16, None, wiped)
        self.assert_told(1, 15, None, wiped + filled(2, 1))
        self.assert_told(1, 14, None, wiped + [("wipe", 2)] * 2 + filled(2, 2))
        self.assert_told(0, 8, 1, wiped + filled(1, 4) + filled(3, 4) + [("wipe", 2)] * 3)

    def test_collected_by_fewest_wipes(self):
        full = filled(0, 4) + filled(1, 4) + filled(2, 4)
        self.assert_told(3, 4, 2, [("wipe", 0)] * 2 + [("wipe", 1)] + full)
        self.assert_told(3, 4, 1, [("wipe", 0)] * 2 + [("wipe", 1)] + [("wipe", 2)] + full)
        self.assert_told(3, 5, 2, [("wipe", 0)] * 2 + filled(0, 4) + filled(1, 3) + filled(2, 4))

    def test_newest_pages_are_nothing_to_a_good_block(self):
        full = put(0, write(0, 1), write(1, 2), write(2, 3), write(0, 4)) + filled(1, 4)
        self.assert_told(2, 8, 0, full)

    def test_a_failed_block_with_a_newest_page_comes_first(self):
        self.assert_told(1, 8, 3, filled(0, 4) + put(3, write(0, 1)) + [("fail", 3)])
        self.assert_told(1, 4, 2, filled(0, 4) + put(3, write(0, 1)) + [("fail", 3)] + put(2, trim(1, 1)) + [("fail", 2)])
        self.assert_told(0, 12, 3, [("wipe", 3)] * 5 + put(3, write(0, 1)) + [("fail", 3)])

    def test_a_failed_block_without_a_newest_page(self):
        self.assert_told(1, 8, 0, filled(0, 4) + filled(3, 1) + [("fail", 3)])
        self.assert_told(1, 11, None, put(3, write(0, 1)) + [("fail", 3)] + put(0, write(0, 2)))
        self.assert_told(1, 12, None, [("fail", 0)])
        self.assert_told(1, 11, None, put(3, member(0, 1, 1)) + [("fail", 3)] + put(0, write(1, 2)))

    def test_all_blocks_failed(self):
        fail = [("fail", block) for block in range(4)]
        self.assert_told(None, 0, None, fail)
        self.assert_told(None, 0, 2, put(2, write(0, 1)) + fail)

    def test_by_names_in_another_order(self):
        flash = built(PLAN, filled(0, 4))
        self.assertEqual(to_open(flash=flash, plan=PLAN), 1)
        self.assertEqual(free(flash=flash, plan=PLAN), 12)
        self.assertEqual(to_collect(flash=flash, plan=PLAN), 0)


class ScatteredTest(unittest.TestCase):
    def test_by_the_words_of_the_points(self):
        for plan, flash in scattered_flashes(400):
            look = Look(plan, flash)
            self.assertEqual(scan(plan, flash), (look.newest, look.next, look.head))
            self.assertEqual(to_open(plan, flash), look.to_open())
            self.assertEqual(free(plan, flash), look.free())
            self.assertEqual(to_collect(plan, flash), look.to_collect())

    def test_told_twice_without_power_and_nothing_is_turned(self):
        for plan, flash in scattered_flashes(40):
            on = [call(plan, flash) for call in (scan, to_open, free, to_collect)]
            flash.off()
            before = state_of(flash)
            for _ in range(2):
                self.assertEqual([call(plan, flash) for call in (scan, to_open, free, to_collect)], on)
            self.assertEqual(state_of(flash), before)


if __name__ == "__main__":
    unittest.main()
