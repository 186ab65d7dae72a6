"""Point 50: which things are orders of a plan."""

import copy
import unittest

from flashkeep.drives import is_order
from flashkeep.errors import NoPlan
from helper import FAR_NUMBERS, OTHER_KINDS, assert_refused

PLANS = [(3, 6, 1, True, True), (4, 4, 3, False, True), (5, 3, 4, True, False), (8, 8, 16, False, False)]


def orders_at_the_ends(places):
    last = places - 1
    told = [("mend",), ("group", ((0, 63),)), ("group", ((last, 0),))]
    for place in {0, last}:
        told += [("read", place), ("trim", place), ("write", place, 0), ("write", place, 63)]
    rows = tuple((place, 63 * (place & 1)) for place in range(last, -1, -1))[:4]
    return told + [("group", rows), ("group", rows[::-1])]


class IsOrderTest(unittest.TestCase):
    def assert_orders(self, due, plan, things):
        for thing in things:
            before = copy.deepcopy(thing)
            self.assertIs(is_order(plan, thing), due, (plan, thing))
            self.assertEqual(thing, before)

    def test_orders_of_each_kind_at_the_ends(self):
        for plan in PLANS:
            self.assert_orders(True, plan, orders_at_the_ends(plan[2]))

    def test_groups_of_one_to_four_rows(self):
        rows = ((2, 5), (0, 0), (3, 63), (1, 5))
        for many in range(1, 5):
            self.assert_orders(True, (5, 3, 4, True, True), [("group", rows[:many])])

    def test_sealed_and_commits_change_nothing(self):
        for sealed in (True, False):
            for commits in (True, False):
                self.assert_orders(True, (4, 4, 3, sealed, commits), orders_at_the_ends(3))

    def test_places_passed(self):
        for plan in PLANS:
            for place in [plan[2], plan[2] + 1, 16, 17, -1, -plan[2], *FAR_NUMBERS, *OTHER_KINDS]:
                self.assert_orders(False, plan, [("read", place), ("trim", place), ("write", place, 0)])
                self.assert_orders(False, plan, [("group", ((place, 0),)), ("group", ((0, 0), (place, 0)))])

    def test_data_passed(self):
        for plan in PLANS:
            for data in [64, 65, 128, -1, *FAR_NUMBERS, *OTHER_KINDS]:
                self.assert_orders(False, plan, [("write", 0, data), ("group", ((0, data),))])
                self.assert_orders(False, plan, [("group", ((plan[2] - 1, 0), (0, data)))])

    def test_rows_of_none_and_of_five(self):
        for plan in PLANS:
            rows = tuple((place, 0) for place in range(5))
            self.assert_orders(False, plan, [("group", ()), ("group", rows)])
        self.assert_orders(False, PLANS[3], [("group", tuple((place, 0) for place in range(16)))])

    def test_a_place_twice(self):
        rows = [((1, 2), (1, 2)), ((1, 2), (1, 3)), ((0, 1), (2, 1), (0, 1)), ((3, 1), (2, 1), (1, 1), (3, 1))]
        self.assert_orders(False, (5, 3, 4, True, True), [("group", row) for row in rows])

    def test_rows_that_are_none(self):
        wrong = [*OTHER_KINDS, *FAR_NUMBERS, 0, (0,), (0, 0), ((0,),), ((0, 0, 0),), ((),), (((0, 0),),), (0, (0, 0))]
        wrong += [((0, 0), thing) for thing in OTHER_KINDS]
        self.assert_orders(False, PLANS[1], [("group", rows) for rows in wrong])

    def test_lists_for_tuples(self):
        things = [["read", 0], ["trim", 0], ["write", 0, 0], ["group", ((0, 0),)], ["mend"]]
        things += [("group", [(0, 0)]), ("group", ([0, 0],)), ("group", ((0, 0), [1, 0])), ("group", [[0, 0]])]
        self.assert_orders(False, PLANS[1], things)

    def test_parts_fewer_and_more(self):
        things = [(), ("read",), ("trim",), ("write",), ("write", 0), ("group",), ("read", 0, 0), ("trim", 0, 0)]
        things += [("write", 0, 0, 0), ("group", ((0, 0),), 0), ("group", (0, 0), (1, 0)), ("mend", 0), ("mend", None)]
        things += [("mend", ()), ("read", 0, None), ("group", ((0, 0),), ((1, 0),)), ("write", (0, 0)), ("read", (0,))]
        self.assert_orders(False, PLANS[1], things)

    def test_other_words(self):
        for word in ["", "Read", "READ", " read", "read ", "writes", "fence", "commit", "member", "mends", b"read"]:
            self.assert_orders(False, PLANS[1], [(word,), (word, 0), (word, 0, 0), (word, ((0, 0),))])
        for word in [*OTHER_KINDS, 0, 1]:
            self.assert_orders(False, PLANS[1], [(word,), (word, 0), (word, 0, 0), (word, ((0, 0),))])

    def test_what_is_no_tuple(self):
        things = [*OTHER_KINDS, *FAR_NUMBERS, "read", "mend", "read 0", {"read": 0}, {0: "read"}, (("read", 0),)]
        for plan in PLANS:
            self.assert_orders(False, plan, things)

    def test_no_plan(self):
        wrong = [*OTHER_KINDS, *FAR_NUMBERS, (2, 8, 1, True, True), (3, 6, 2, True, True), (3, 6, 1, 1, True)]
        for plan in [*wrong, [3, 6, 1, True, True], (3, 6, 1, True)]:
            assert_refused(self, NoPlan, is_order, plan, ("mend",))
            assert_refused(self, NoPlan, is_order, thing=None, plan=plan)

    def test_by_names_in_another_order(self):
        self.assertIs(is_order(thing=("read", 2), plan=PLANS[1]), True)
        self.assertIs(is_order(thing=("read", 3), plan=PLANS[1]), False)


if __name__ == "__main__":
    unittest.main()
