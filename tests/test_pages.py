"""Point 20: a page's fields, and the words that hold them."""

import itertools
import unittest

from flashkeep.errors import NoFields, NoWord
from flashkeep.pages import fields_in, is_fields, word_of
from helper import FAR_NUMBERS, OTHER_KINDS, assert_refused, nested, scattered

KINDS = ["write", "trim", "member", "commit"]
# Of each kind the greatest place, number, group and data.
GREATEST = {
    "write": (15, 16383, 0, 63), "trim": (15, 16383, 0, 0), "member": (15, 16383, 16383, 63),
    "commit": (0, 16383, 16383, 0),
}
SPOILT = ("spoilt", None)

# Fields, their number by its bits, and the bits of their sealed word, worked out by hand. The number's bits 0 to 39
# stand at 3, 5 to 7, 9 to 15, 17 to 31, 33 to 46: data from 3 on, group (bit 6) from 11 on, number (bit 20) from 26
# on, place (bit 34) from 41 on, kind (bit 38) at 45 and 46.
BY_HAND = [
    (("write", 0, 0, 0, 0), [], []),
    (("write", 0, 0, 0, 1), [0], [0, 1, 2, 3]),
    (("write", 1, 0, 0, 0), [34], [1, 8, 32, 41]),
    (("trim", 0, 0, 0, 0), [38], [0, 1, 4, 8, 32, 45]),
    (("member", 0, 0, 0, 0), [39], [0, 2, 4, 8, 32, 46]),
    (("commit", 0, 0, 0, 0), [38, 39], [1, 2, 45, 46]),
    (("commit", 0, 1, 1, 0), [6, 20, 38, 39], [2, 11, 16, 26, 45, 46]),
    (("write", 8, 16, 0, 32), [5, 24, 37], [8, 10, 16, 30, 32, 44]),
    (("member", 2, 8192, 8192, 2), [1, 19, 33, 35, 39], [0, 5, 16, 25, 32, 40, 42, 46]),
]
NO_PARTS = [-1, True, False, None, "0", "", [], [0], (), (0,), {}, 0.0, *FAR_NUMBERS]


def number_by_shifts(fields):
    kind, place, number, group, data = fields
    return KINDS.index(kind) << 38 | place << 34 | number << 20 | group << 6 | data


def parts_by_shifts(number):
    return (KINDS[number >> 38 & 3], number >> 34 & 15, number >> 20 & 16383, number >> 6 & 16383, number & 63)


def corners():
    """Fields of each kind at both ends of every bound."""
    for kind in KINDS:
        for parts in itertools.product(*({0, top} for top in GREATEST[kind])):
            yield (kind, *parts)


def scattered_fields(many):
    for kind in KINDS:
        rolls = iter(scattered(4 * many, 2 ** 40))
        for _ in range(many):
            yield (kind, *(next(rolls) % (top + 1) for top in GREATEST[kind]))


def no_fields():
    """Things that are no fields, each but for one part like fields."""
    for kind in KINDS:
        whole = (kind, *GREATEST[kind])
        for at in range(1, 5):
            for part in [GREATEST[kind][at - 1] + 1, GREATEST[kind][at - 1] + 2, *NO_PARTS]:
                yield (*whole[:at], part, *whole[at + 1:])
        for wrong in ("", "Write", kind + " ", kind[:-1], 0, 1, None, True, b"write", [kind], (kind,), {kind: 1}):
            yield (wrong, 0, 0, 0, 0)
        yield list(whole)
        yield whole[:4]
        yield whole[1:]
        yield (*whole, 0)
        yield (whole,)
        yield [*whole, 0]
    yield from KINDS
    yield from OTHER_KINDS
    yield from FAR_NUMBERS
    yield from [0, 1, -1, nested(10), {"kind": "write"}, ("write", (0, 0, 0, 0)), [("write", 0, 0, 0, 0)], "a" * 5]


class IsFieldsTest(unittest.TestCase):
    def test_at_both_ends_of_every_bound(self):
        for fields in corners():
            self.assertIs(is_fields(fields), True, fields)

    def test_within_the_bounds(self):
        for fields in scattered_fields(20):
            self.assertIs(is_fields(fields), True, fields)

    def test_group_data_and_place_that_are_nought_of_some_kinds(self):
        due = {"write": (True, False, True), "trim": (True, False, False), "member": (True, True, True),
               "commit": (False, True, False)}
        for kind in KINDS:
            for at, let in zip((1, 3, 4), due[kind]):
                parts = [kind, 0, 0, 0, 0]
                parts[at] = 1
                self.assertIs(is_fields(tuple(parts)), let, parts)

    def test_things_that_are_none(self):
        for thing in no_fields():
            self.assertIs(is_fields(thing), False, repr(thing)[:80])

    def test_by_name(self):
        self.assertIs(is_fields(thing=("trim", 3, 4, 0, 0)), True)
        self.assertIs(is_fields(thing=("trim", 3, 4, 0, 1)), False)


class WordOfTest(unittest.TestCase):
    def test_words_worked_out_by_hand(self):
        for fields, number, bits in BY_HAND:
            word = sum(2 ** bit for bit in bits)
            self.assertEqual(word_of(fields), word, fields)
            self.assertEqual(word_of(fields, True), word, fields)
            self.assertEqual(word_of(fields, sealed=True), word, fields)
            self.assertEqual(word_of(fields, False), sum(2 ** bit for bit in number), fields)

    def test_the_greatest_member_not_sealed(self):
        self.assertEqual(word_of(("member", 15, 16383, 16383, 63), False), 2 ** 40 - 1 - 2 ** 38)

    def test_numbers_of_all_kinds(self):
        for fields in [*corners(), *scattered_fields(20)]:
            self.assertEqual(word_of(fields, sealed=False), number_by_shifts(fields), fields)

    def test_by_names_in_another_order(self):
        self.assertEqual(word_of(sealed=False, fields=("write", 0, 0, 0, 1)), 1)
        self.assertEqual(word_of(sealed=True, fields=("write", 0, 0, 0, 1)), 15)
        self.assertEqual(word_of(fields=("write", 0, 0, 0, 1)), 15)

    def test_no_fields(self):
        for thing in no_fields():
            assert_refused(self, NoFields, word_of, thing)
            assert_refused(self, NoFields, word_of, sealed=False, fields=thing)


class FieldsInTest(unittest.TestCase):
    def test_words_worked_out_by_hand(self):
        for fields, number, bits in BY_HAND:
            self.assertEqual(fields_in(sum(2 ** bit for bit in bits)), ("good", fields))
            self.assertEqual(fields_in(sum(2 ** bit for bit in number), False), ("good", fields))

    def test_read_back(self):
        for fields in [*corners(), *scattered_fields(20)]:
            self.assertEqual(fields_in(word_of(fields)), ("good", fields))
            self.assertEqual(fields_in(word_of(fields, True), True), ("good", fields))
            self.assertEqual(fields_in(word_of(fields, False), False), ("good", fields))

    def test_each_one_bit_turned_is_mended(self):
        for fields in [*corners(), *scattered_fields(3)]:
            for bit in range(47):
                self.assertEqual(fields_in(word_of(fields) ^ (1 << bit)), ("mended", fields), (fields, bit))

    def test_each_two_bits_turned_are_spoilt(self):
        for fields in scattered_fields(1):
            for one, other in itertools.combinations(range(47), 2):
                self.assertEqual(fields_in(word_of(fields) ^ (1 << one) ^ (1 << other)), SPOILT, (fields, one, other))

    def test_a_bit_turned_in_a_word_that_is_not_sealed(self):
        for fields in [*corners(), *scattered_fields(5)]:
            for bit in range(47):
                number = word_of(fields, False) ^ (1 << bit)
                turned = parts_by_shifts(number)
                due = ("good", turned) if bit < 40 and is_fields(turned) else SPOILT
                self.assertEqual(fields_in(number, False), due, (fields, bit))

    def test_no_number_of_forty_bits(self):
        for word in [2 ** 40, 2 ** 40 + 1, 2 ** 41, 2 ** 46, 2 ** 47 - 1, 2 ** 40 + 2 ** 39]:
            self.assertEqual(fields_in(word, False), SPOILT, word)

    def test_numbers_of_no_fields(self):
        write_in_group, trim_in_group, trim_with_data = 1 << 6, 1 << 38 | 1 << 19, 1 << 38 | 1
        commit_with_data, commit_at_place = 3 << 38 | 1 << 5, 3 << 38 | 1 << 34
        for number in [write_in_group, trim_in_group, trim_with_data, commit_with_data, commit_at_place, 2 ** 40 - 1]:
            self.assertEqual(fields_in(number, False), SPOILT, number)

    def test_sealed_numbers_of_no_fields(self):
        # A write with bit 6, a trim with bit 0, a commit with bit 34 of its number, sealed by hand.
        for bits in ([1, 2, 8, 11], [2, 3, 4, 8, 32, 45], [2, 8, 32, 41, 45, 46]):
            word = sum(2 ** bit for bit in bits)
            self.assertEqual(fields_in(word), SPOILT, bits)
            self.assertEqual(fields_in(word, True), SPOILT, bits)
            # One turned bit more doesn't help: what it is mended to is of no fields.
            self.assertEqual(fields_in(word ^ 2 ** 20), SPOILT, bits)

    def test_ends_of_the_words(self):
        self.assertEqual(fields_in(0), ("good", ("write", 0, 0, 0, 0)))
        self.assertEqual(fields_in(0, False), ("good", ("write", 0, 0, 0, 0)))
        # Its ones are odd in number and their numbers come to 47, a bit that there is not.
        self.assertEqual(fields_in(2 ** 47 - 1), SPOILT)
        self.assertEqual(fields_in(2 ** 47 - 1, False), SPOILT)

    def test_no_word(self):
        for word in [-1, -2, 2 ** 47, 2 ** 47 + 1, 2 ** 48, *FAR_NUMBERS, *OTHER_KINDS]:
            for sealed in (True, False):
                assert_refused(self, NoWord, fields_in, word, sealed)
                assert_refused(self, NoWord, fields_in, sealed=sealed, word=word)
            assert_refused(self, NoWord, fields_in, word)

    def test_by_names_in_another_order(self):
        self.assertEqual(fields_in(sealed=False, word=15), ("good", ("write", 0, 0, 0, 15)))
        self.assertEqual(fields_in(sealed=True, word=15), ("good", ("write", 0, 0, 0, 1)))
        self.assertEqual(fields_in(word=14), ("mended", ("write", 0, 0, 0, 1)))

    def test_asked_again(self):
        for word in (15, 14, 12, 2 ** 47 - 1):
            self.assertEqual(fields_in(word), fields_in(word))
            self.assertEqual(fields_in(word, False), fields_in(word, False))

    def test_kinds_of_what_is_told(self):
        for word in (15, 14, 12):
            self.assertIs(type(fields_in(word)), tuple)
        self.assertEqual([type(part) for part in fields_in(14)[1]], [str, int, int, int, int])


if __name__ == "__main__":
    unittest.main()
