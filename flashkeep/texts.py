"""Texts: orders and weathers, written and read."""

from flashkeep.errors import NoOrder, NoText, NoWeather
from flashkeep.flash import is_weather
from flashkeep.orders import is_order_below
from flashkeep.scans import MOST_PLACES

FIGURES = "0123456789"
MOST_FIGURES = 9
NO_FAULTS = "-"


def number_in(word):
    """Tell the number that is written by a word, None where there is none."""
    if not 1 <= len(word) <= MOST_FIGURES or not all([sign in FIGURES for sign in word]):
        return None
    if word[0] == "0" and word != "0":
        return None
    return int(word)


def order_in(text):
    """Tell the order that a text writes, by its shape alone, None where there is none."""
    word, *parts = text.split(" ")
    numbers = [number_in(part) for part in parts]
    order = (word, *numbers)
    if word == "group":
        order = (word, tuple([tuple(numbers[at:at + 2]) for at in range(0, len(numbers), 2)]))
    return order if is_order_below(order, MOST_PLACES) else None


def fault_in(word):
    """Tell the fault that a word writes, or what is none."""
    if word.startswith("bit"):
        return ("bit", number_in(word[3:]))
    return (word,)


def row_in(word):
    """Tell (step, fault) as a word writes it, or what is none."""
    step, colon, fault = word.partition(":")
    return (number_in(step), fault_in(fault))


def order_text(order):
    """Tell the text of an order, by its shape alone."""
    if not is_order_below(order, MOST_PLACES):
        raise NoOrder("this is no order of any plan")
    word, *parts = order
    if word == "group":
        parts = [part for row in parts[0] for part in row]
    return " ".join([word] + [str(part) for part in parts])


def fault_text(step, fault):
    """Tell the text of a fault at a step."""
    word, *bits = fault
    return f"{step}:{word}" + "".join([str(bit) for bit in bits])


def weather_text(weather):
    """Tell the text of a weather."""
    if not is_weather(weather):
        raise NoWeather("this is no weather")
    return " ".join([fault_text(step, fault) for step, fault in weather]) or NO_FAULTS


def read_order(text):
    """Tell the order that a text writes."""
    order = order_in(text) if isinstance(text, str) else None
    if order is None:
        raise NoText("this is no order as it is written")
    return order


def weather_in(text):
    """Tell the weather that a text writes, or what is none."""
    if text == NO_FAULTS:
        return ()
    return tuple([row_in(word) for word in text.split(" ")])


def read_weather(text):
    """Tell the weather that a text writes."""
    weather = weather_in(text) if isinstance(text, str) else None
    if not is_weather(weather):
        raise NoText("this is no weather as it is written")
    return weather
