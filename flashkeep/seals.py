"""Sealed words: numbers with checks, so that one turned bit is mended and two are seen."""

from flashkeep.errors import NoNumber, NoWidth, NoWord
from flashkeep.looks import is_within

WIDEST = 57


def look_at_width(width):
    """Refuse what is no width."""
    if not is_within(width, 1, WIDEST):
        raise NoWidth("a width is a whole number from 1 to 57")


def last_bit(width):
    """Tell the number of a sealed word's last bit."""
    checks = 0
    while (1 << checks) < width + checks + 1:
        checks += 1
    return width + checks


def spread(number):
    """Tell the word that holds a number's bits at their places, all checks and bit 0 being 0."""
    word = 0
    check = 2
    while number > 0:
        # The places between two checks stand side by side, so they are filled at once.
        many = check - 1
        word |= (number & ((1 << many) - 1)) << (check + 1)
        number >>= many
        check *= 2
    return word


def number_in(word):
    """Tell the number whose bits a word holds."""
    number = 0
    filled = 0
    check = 2
    while (word >> check) > 0:
        many = check - 1
        number |= ((word >> (check + 1)) & ((1 << many) - 1)) << filled
        filled += many
        check *= 2
    return number


def together(word):
    """Tell the numbers of all bits that are 1, put together without carrying."""
    total = 0
    while word > 0:
        at = word.bit_length() - 1
        total ^= at
        word ^= 1 << at
    return total


def is_odd(word):
    """Tell whether the bits that are 1 are odd in number."""
    odd = False
    while word > 0:
        # This turns just the least bit that is 1.
        word &= word - 1
        odd = not odd
    return odd


def checks_for(total):
    """Tell the word of the checks alone whose numbers, put together, come to total."""
    word = 0
    check = 1
    while check <= total:
        if total & check:
            word |= 1 << check
        check *= 2
    return word


def seal(number, width):
    """Tell the sealed word of a number below two to the power width."""
    look_at_width(width)
    if not is_within(number, 0, (1 << width) - 1):
        raise NoNumber("a number of a width is a whole number from 0 on below two to its power")
    word = spread(number)
    word |= checks_for(together(word))
    # Bit 0 is no part of what the checks see, so it is set last, over all the others.
    if is_odd(word):
        word |= 1
    return word


def opened(word, width):
    """Tell what a word holds: ("good", number), ("mended", number, bit) or ("spoilt",)."""
    look_at_width(width)
    last = last_bit(width)
    if not is_within(word, 0, (2 << last) - 1):
        raise NoWord("a word of a width is a whole number from 0 on of as many bits as a sealed one")
    bit = together(word)
    if is_odd(word):
        # The bit that would make the word a sealed one may be one that the word does not have.
        if bit > last:
            return ("spoilt",)
        return ("mended", number_in(word ^ (1 << bit)), bit)
    if bit > 0:
        return ("spoilt",)
    return ("good", number_in(word))
