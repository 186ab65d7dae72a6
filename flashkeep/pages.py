"""A page's fields, and the words that hold them, sealed or not."""

from flashkeep.errors import NoFields, NoWord
from flashkeep.looks import is_within
from flashkeep.seals import opened, seal

KINDS = ("write", "trim", "member", "commit")
GREATEST_NUMBER = 16383
# Of each kind the greatest place, group and data.
GREATEST = {
    "write": (15, 0, 63),
    "trim": (15, 0, 0),
    "member": (15, 16383, 63),
    "commit": (0, 16383, 0),
}
WIDTH = 40
GREATEST_WORD = (1 << 47) - 1


def is_fields(thing):
    """Tell whether a thing of any kind is a page's fields."""
    if not isinstance(thing, tuple) or len(thing) != 5:
        return False
    kind, place, number, group, data = thing
    # Only a text is sure to be one that can be looked for in a dict.
    if not isinstance(kind, str) or kind not in GREATEST:
        return False
    greatest_place, greatest_group, greatest_data = GREATEST[kind]
    return (
        is_within(place, 0, greatest_place)
        and is_within(number, 0, GREATEST_NUMBER)
        and is_within(group, 0, greatest_group)
        and is_within(data, 0, greatest_data)
    )


def is_word(thing):
    """Tell whether a thing of any kind is a word that a page can hold."""
    return is_within(thing, 0, GREATEST_WORD)


def number_of(fields):
    """Tell the number of 40 bits that fields are."""
    kind, place, number, group, data = fields
    return (((KINDS.index(kind) * 16 + place) * 16384 + number) * 16384 + group) * 64 + data


def parts_of(number):
    """Tell the parts of a number of 40 bits, be they those of no fields."""
    number, data = divmod(number, 64)
    number, group = divmod(number, 16384)
    number, own = divmod(number, 16384)
    kind, place = divmod(number, 16)
    return (KINDS[kind], place, own, group, data)


def number_in_word(word, sealed):
    """Tell what a word holds, sealed or not, as opened tells it."""
    if sealed:
        return opened(word, WIDTH)
    return ("spoilt",) if word >> WIDTH else ("good", word)


def word_of(fields, sealed=True):
    """Tell the word of fields: sealed, or the number itself."""
    if not is_fields(fields):
        raise NoFields("fields are a tuple of kind, place, number, group and data, each within its bounds")
    number = number_of(fields)
    return seal(number, WIDTH) if sealed else number


def fields_in(word, sealed=True):
    """Tell (state, fields) of a word: "good" or "mended" with its fields, or ("spoilt", None)."""
    if not is_word(word):
        raise NoWord("a word is a whole number from 0 on below two to the power 47")
    told = number_in_word(word, sealed)
    if told[0] == "spoilt":
        return ("spoilt", None)
    fields = parts_of(told[1])
    return (told[0], fields) if is_fields(fields) else ("spoilt", None)
