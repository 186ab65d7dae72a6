"""Points 10 and 11: sealed words."""

import itertools
import unittest

from flashkeep.errors import NoNumber, NoWidth, NoWord
from flashkeep.seals import opened, seal
from helper import FAR_NUMBERS, OTHER_KINDS, assert_refused, scattered

# Worked out by hand: the numbers 1, 2, 4 and 8 hold one of the bits 3, 5, 6 and 7 each, with the checks
# (1 and 2), (1 and 4), (2 and 4), (1, 2 and 4); bit 0 is 1 where these are three bits together.
WORDS_OF_FOUR = [
    0b00000000, 0b00001111, 0b00110011, 0b00111100, 0b01010101, 0b01011010, 0b01100110, 0b01101001,
    0b10010110, 0b10011001, 0b10100101, 0b10101010, 0b11000011, 0b11001100, 0b11110000, 0b11111111,
]
WORDS_OF_ONE = [0b0000, 0b1111]
WORDS_OF_TWO = [0b000000, 0b001111, 0b110011, 0b111100]
WIDTHS = range(1, 58)
WIDE = [5, 11, 12, 26, 27, 40, 56, 57]
NO_WIDTHS = [0, 58, 59, 64, -1, -4, -57, *FAR_NUMBERS, *OTHER_KINDS]


def checks_of(width):
    """How many checks, by the greatest widths that 2, 3, 4, 5 and 6 of them suffice for."""
    return 2 + sum(width > greatest for greatest in (1, 4, 11, 26))


def bits_of(width):
    return width + checks_of(width) + 1


def ones(word):
    return [at for at in range(word.bit_length()) if word >> at & 1]


def places_of(width):
    return [at for at in range(bits_of(width)) if at not in (0, 1, 2, 4, 8, 16, 32)]


def number_held(word, width):
    return sum((word >> at & 1) << n for n, at in enumerate(places_of(width)))


def is_sealed(word):
    together = 0
    for at in ones(word):
        together ^= at
    return together == 0 and len(ones(word)) % 2 == 0


def due_of(word, width):
    """What opened must tell, by trying every bit there is."""
    if is_sealed(word):
        return ("good", number_held(word, width))
    for bit in range(bits_of(width)):
        turned = word ^ (1 << bit)
        if is_sealed(turned):
            return ("mended", number_held(turned, width), bit)
    return ("spoilt",)


def numbers_of(width):
    top = 2 ** width
    return [0, 1, top // 2, top - 1, 0x0AAAAAAAAAAAAAAA % top, 0x0555555555555555 % top, *scattered(5, top)]


class SealTest(unittest.TestCase):
    def test_all_words_of_width_four(self):
        self.assertEqual([seal(number, 4) for number in range(16)], WORDS_OF_FOUR)

    def test_all_words_of_widths_one_and_two(self):
        self.assertEqual([seal(number, 1) for number in range(2)], WORDS_OF_ONE)
        self.assertEqual([seal(number, 2) for number in range(4)], WORDS_OF_TWO)

    def test_a_wide_word_worked_out_by_hand(self):
        # Bit 63 alone needs every check, six ones and one: bit 0 makes them eight.
        bits = [0, 1, 2, 4, 8, 16, 32, 63]
        self.assertEqual(seal(2 ** 56, 57), sum(2 ** at for at in bits))

    def test_the_numbers_of_the_ones_come_to_nought(self):
        for width in WIDTHS:
            for number in numbers_of(width):
                together = 0
                for at in ones(seal(number, width)):
                    together ^= at
                self.assertEqual(together, 0, (number, width))

    def test_the_ones_are_even_in_number(self):
        for width in WIDTHS:
            for number in numbers_of(width):
                self.assertEqual(len(ones(seal(number, width))) % 2, 0, (number, width))

    def test_the_other_bits_are_the_number(self):
        for width in WIDTHS:
            for number in numbers_of(width):
                self.assertEqual(number_held(seal(number, width), width), number, (number, width))

    def test_no_word_has_more_bits_than_told(self):
        for width in WIDTHS:
            for number in numbers_of(width):
                word = seal(number, width)
                self.assertTrue(type(word) is int and 0 <= word < 2 ** bits_of(width), (number, width))

    def test_by_names_in_either_order(self):
        self.assertEqual(seal(number=11, width=4), 170)
        self.assertEqual(seal(width=4, number=11), 170)
        self.assertEqual(seal(11, width=4), 170)

    def test_asked_again(self):
        self.assertEqual(seal(2 ** 40 - 2, 40), seal(2 ** 40 - 2, 40))

    def test_no_width(self):
        for width in NO_WIDTHS:
            with self.subTest(repr(width)[:60]):
                assert_refused(self, NoWidth, seal, 0, width)
                assert_refused(self, NoWidth, seal, width=width, number=1)

    def test_the_number_is_looked_at_behind_the_width(self):
        for number in [-1, 2 ** 57, *FAR_NUMBERS, *OTHER_KINDS]:
            for width in (0, 58, True, None, "4", [4]):
                assert_refused(self, NoWidth, seal, number, width)

    def test_no_number(self):
        for width in WIDTHS:
            for number in [-1, -2, 2 ** width, 2 ** width + 1, 2 ** (width + 1), *FAR_NUMBERS]:
                assert_refused(self, NoNumber, seal, number, width)

    def test_a_number_of_another_kind(self):
        for number in OTHER_KINDS:
            with self.subTest(repr(number)[:60]):
                assert_refused(self, NoNumber, seal, number, 4)
                assert_refused(self, NoNumber, seal, width=1, number=number)


class OpenedTest(unittest.TestCase):
    def test_every_word_of_the_least_widths(self):
        for width in (1, 2, 3, 4):
            sealed = {seal(number, width): number for number in range(2 ** width)}
            for word in range(2 ** bits_of(width)):
                due = ("spoilt",)
                for bit in range(bits_of(width)):
                    if word ^ (1 << bit) in sealed:
                        due = ("mended", sealed[word ^ (1 << bit)], bit)
                if word in sealed:
                    due = ("good", sealed[word])
                self.assertEqual(opened(word, width), due, (word, width))

    def test_words_worked_out_by_hand(self):
        self.assertEqual(opened(0b00110011, 4), ("good", 2))
        self.assertEqual(opened(0b00110010, 4), ("mended", 2, 0))
        self.assertEqual(opened(0b00110001, 4), ("mended", 2, 1))
        self.assertEqual(opened(0b10110011, 4), ("mended", 2, 7))
        self.assertEqual(opened(0b00111111, 4), ("spoilt",))
        self.assertEqual(opened(0b0110, 1), ("spoilt",))

    def test_sealed_words_are_good(self):
        for width in WIDTHS:
            for number in numbers_of(width):
                self.assertEqual(opened(seal(number, width), width), ("good", number), width)

    def test_each_one_bit_turned_is_mended(self):
        for width in WIDTHS:
            for number in numbers_of(width):
                word = seal(number, width)
                for bit in range(bits_of(width)):
                    self.assertEqual(opened(word ^ (1 << bit), width), ("mended", number, bit), (number, width))

    def test_each_two_bits_turned_are_spoilt(self):
        for width in WIDE:
            for number in (0, 2 ** width - 1, scattered(1, 2 ** width)[0]):
                word = seal(number, width)
                for one, other in itertools.combinations(range(bits_of(width)), 2):
                    turned = word ^ (1 << one) ^ (1 << other)
                    self.assertEqual(opened(turned, width), ("spoilt",), (number, width, one, other))

    def test_three_bits_turned(self):
        for width in WIDE:
            word = seal(scattered(1, 2 ** width)[0], width)
            threes = list(itertools.combinations(range(bits_of(width)), 3))
            for three in threes[::len(threes) // 300 + 1] + threes[-20:]:
                turned = word ^ sum(1 << bit for bit in three)
                self.assertEqual(opened(turned, width), due_of(turned, width), (width, three))

    def test_words_of_no_likeness_to_sealed_ones(self):
        for width in WIDTHS:
            for word in scattered(40, 2 ** bits_of(width)):
                self.assertEqual(opened(word, width), due_of(word, width), (word, width))

    def test_a_bit_beyond_the_last_is_spoilt(self):
        # The last bits of these widths are 17, 33, 46 and 62; the ones come to 28, 49, 49 and 63.
        self.assertEqual(opened(2 ** 4 + 2 ** 8 + 2 ** 16, 12), ("spoilt",))
        self.assertEqual(opened(2 ** 1 + 2 ** 16 + 2 ** 32, 27), ("spoilt",))
        self.assertEqual(opened(2 ** 1 + 2 ** 16 + 2 ** 32, 40), ("spoilt",))
        self.assertEqual(opened(2 ** 1 + 2 ** 30 + 2 ** 32, 56), ("spoilt",))

    def test_the_last_bit_and_the_first_beyond(self):
        # Of width 40 the last bit is 46: ones that come to 46 are mended, to 47 spoilt.
        self.assertEqual(opened(2 ** 32 + 2 ** 8 + 2 ** 6, 40)[::2], ("mended", 46))
        self.assertEqual(opened(2 ** 32 + 2 ** 8 + 2 ** 7, 40), ("spoilt",))

    def test_the_greatest_word_is_let_and_the_next_is_not(self):
        for width in WIDTHS:
            greatest = 2 ** bits_of(width) - 1
            self.assertEqual(opened(greatest, width), due_of(greatest, width), width)
            assert_refused(self, NoWord, opened, greatest + 1, width)

    def test_no_word(self):
        for width in WIDTHS:
            for word in [-1, -2, 2 ** bits_of(width) + 1, 2 ** (bits_of(width) + 1), *FAR_NUMBERS]:
                assert_refused(self, NoWord, opened, word, width)

    def test_a_word_of_another_kind(self):
        for word in OTHER_KINDS:
            with self.subTest(repr(word)[:60]):
                assert_refused(self, NoWord, opened, word, 4)
                assert_refused(self, NoWord, opened, width=1, word=word)

    def test_no_width(self):
        for width in NO_WIDTHS:
            with self.subTest(repr(width)[:60]):
                assert_refused(self, NoWidth, opened, 0, width)
                assert_refused(self, NoWidth, opened, width=width, word=1)

    def test_the_word_is_looked_at_behind_the_width(self):
        for word in [-1, 2 ** 64, *FAR_NUMBERS, *OTHER_KINDS]:
            for width in (0, 58, False, None, "4", [4]):
                assert_refused(self, NoWidth, opened, word, width)

    def test_by_names_in_either_order(self):
        self.assertEqual(opened(word=171, width=4), ("mended", 11, 0))
        self.assertEqual(opened(width=4, word=171), ("mended", 11, 0))
        self.assertEqual(opened(171, width=4), ("mended", 11, 0))

    def test_asked_again(self):
        for word in (150, 151, 144):
            self.assertEqual(opened(word, 4), opened(word, 4))

    def test_kinds_of_what_is_told(self):
        for word in (150, 151, 144):
            told = opened(word, 4)
            self.assertIs(type(told), tuple)
            self.assertIs(type(told[0]), str)
            self.assertTrue(all(type(part) is int for part in told[1:]))


if __name__ == "__main__":
    unittest.main()
