"""Point 110: orders and weathers as texts."""

import unittest

from flashkeep.errors import NoOrder, NoText, NoWeather
from flashkeep.flash import is_weather
from flashkeep.texts import order_text, read_order, read_weather, weather_text
from helper import FAR_NUMBERS, OTHER_KINDS, assert_refused, choices, scattered_order, scattered_weather

ORDERS = {
    "read 0": ("read", 0),
    "read 15": ("read", 15),
    "write 0 0": ("write", 0, 0),
    "write 15 63": ("write", 15, 63),
    "write 9 10": ("write", 9, 10),
    "trim 0": ("trim", 0),
    "trim 15": ("trim", 15),
    "group 0 0": ("group", ((0, 0),)),
    "group 15 63 0 5": ("group", ((15, 63), (0, 5))),
    "group 1 2 3 4 5 6": ("group", ((1, 2), (3, 4), (5, 6))),
    "group 15 63 14 63 13 63 12 63": ("group", ((15, 63), (14, 63), (13, 63), (12, 63))),
    "mend": ("mend",),
}
FORTY = tuple((step, ("bit", 46)) for step in range(9960, 10000))
WEATHERS = {
    "-": (),
    "0:cut": ((0, ("cut",)),),
    "9999:bad": ((9999, ("bad",)),),
    "7:bit0": ((7, ("bit", 0)),),
    "10:bit46": ((10, ("bit", 46)),),
    "0:cut 1:bad 2:bit10 100:bit9 9999:cut": (
        (0, ("cut",)), (1, ("bad",)), (2, ("bit", 10)), (100, ("bit", 9)), (9999, ("cut",)),
    ),
    " ".join(f"{step}:bit46" for step in range(9960, 10000)): FORTY,
}
# Texts of which none is an order or a weather.
NO_TEXTS = [thing for thing in OTHER_KINDS if thing != "-"] + FAR_NUMBERS + [0, ("read", 0), b"read 0", ["mend"]]
NO_TEXTS += ["", " ", "  ", "\n", "\t", "none", "fence", "cut", "reads", "steps", "--", "0", "0:", ":", ":cut"]
NO_TEXTS += ["9" * 2000]


def spoilt(text):
    """Texts with one thing otherwise in the blanks, the letters and the figures."""
    told = [" " + text, text + " ", text.upper(), text.capitalize(), text + "\n", "\t" + text, text + " x", "x" + text]
    told += [text.replace(" ", other, 1) for other in ("  ", "\t", "", ",")]
    for at, sign in enumerate(text):
        if sign.isdigit():
            digit = int(sign)
            told += [text[:at] + more + text[at:] for more in ("+", "-", "_", ".", " ")]
            told.append(text[:at] + chr(0x660 + digit) + text[at + 1:])
            told.append(text[:at] + chr(0xFF10 + digit) + text[at + 1:])
            if not text[at - 1].isdigit():
                told += [text[:at] + "0" + text[at:], text[:at] + "0000000000" + text[at:]]
                told.append(text[:at] + "1e1" + text[at + 1:])
    return [thing for thing in told if thing != text and thing not in ORDERS and thing not in WEATHERS]


class OrderTextTest(unittest.TestCase):
    def test_written_and_read(self):
        for text, order in ORDERS.items():
            self.assertEqual(order_text(order), text)
            self.assertEqual(read_order(text), order)
            self.assertEqual(order_text(order=order), text)
            self.assertEqual(read_order(text=text), order)

    def test_read_back(self):
        plan = (8, 8, 16, True, True)
        for seed in range(20):
            pick = choices(500, seed)
            for _ in range(20):
                order = scattered_order(pick, plan)
                self.assertEqual(read_order(order_text(order)), order)

    def test_kinds_of_what_is_read(self):
        told = read_order("group 1 2 3 4")
        self.assertIsInstance(told, tuple)
        self.assertTrue(all(isinstance(row, tuple) for row in told[1]))

    def test_no_order(self):
        wrong = [*OTHER_KINDS, *FAR_NUMBERS, ("read", 16), ("read", -1), ("read", True), ("read", 0, 0), ("read",)]
        wrong += [("write", 0, 64), ("write", 16, 0), ("write", 0), ("trim", 16), ("fence",), ("mend", 0), ["mend"]]
        wrong += [("group", ()), ("group", ((0, 1), (0, 2))), ("group", tuple((place, 0) for place in range(5)))]
        wrong += [("group", [(0, 1)]), "mend"]
        for order in wrong:
            assert_refused(self, NoOrder, order_text, order)
            assert_refused(self, NoOrder, order_text, order=order)

    def test_texts_that_are_none(self):
        wrong = [
            *NO_TEXTS, *WEATHERS,
            "read", "read 16", "read 99", "read 0 0", "read none", "read x", "red 0", "read -1", "read 0x1",
            "read 1_0", "read 1.0", "read 999999999", "read 1000000000",
            "write", "write 1", "write 16 0", "write 0 64", "write 0 1 2", "write 0 0000000001",
            "trim", "trim 16", "trim 0 0", "mend 0", "mends",
            "group", "group 0", "group 0 1 2", "group 0 1 0 2", "group 0 64", "group 16 0", "group (0, 1)",
            "group 0 0 1 0 2 0 3 0 4 0",
        ]
        for text in wrong:
            assert_refused(self, NoText, read_order, text)
            assert_refused(self, NoText, read_order, text=text)

    def test_texts_with_one_thing_otherwise(self):
        for text in ORDERS:
            for other in spoilt(text):
                # A blank between two figures may make another order of it.
                if not other.replace(" ", "") == text.replace(" ", "") or "  " in other:
                    assert_refused(self, NoText, read_order, other)


class WeatherTextTest(unittest.TestCase):
    def test_written_and_read(self):
        for text, weather in WEATHERS.items():
            self.assertEqual(weather_text(weather), text)
            self.assertEqual(read_weather(text), weather)
            self.assertEqual(weather_text(weather=weather), text)
            self.assertEqual(read_weather(text=text), weather)

    def test_read_back(self):
        for seed in range(60):
            weather = scattered_weather(choices(500, seed), 40, ["cut", "bad", "bit"], 10000)
            told = read_weather(weather_text(weather))
            self.assertEqual(told, weather)
            self.assertTrue(is_weather(told))

    def test_no_weather(self):
        wrong = [thing for thing in OTHER_KINDS if thing != ()]
        wrong += [*FAR_NUMBERS, "-", [(0, ("cut",))], ((0, ("rain",)),)]
        wrong += [((1, ("cut",)), (0, ("cut",))), ((10000, ("cut",)),), ((0, ("bit", 47)),), (*FORTY[:39], *FORTY[38:])]
        wrong += [tuple((step, ("bad",)) for step in range(41))]
        for weather in wrong:
            assert_refused(self, NoWeather, weather_text, weather)
            assert_refused(self, NoWeather, weather_text, weather=weather)

    def test_texts_that_are_none(self):
        wrong = [
            *NO_TEXTS, *ORDERS,
            "0:rain", "0:bit", "0:bit47", "0:bit46 ", "0:bit100", "0:bit-1", "0:bitcut", "0:bit 3", "0:bits3", "0:bi",
            "0:bit03", "0:bit1x", "0:bit0000000001", "0:cut3", "0:bad0", "cut:0", "0-cut", "0: cut", "0 :cut", "0::cut",
            "0:cut:bad", "10000:cut", "-1:cut", "00:cut", "0000000001:cut", "1234567890:cut",
            "0:cut 0:bad", "1:cut 0:bad", "0:cut,1:bad", "0:cut -", "- -", "- 0:cut", "0:cut 1:",
            " ".join(f"{step}:bad" for step in range(41)),
        ]
        for text in wrong:
            assert_refused(self, NoText, read_weather, text)
            assert_refused(self, NoText, read_weather, text=text)

    def test_texts_with_one_thing_otherwise(self):
        for text in WEATHERS:
            if len(text) < 50:
                for other in spoilt(text):
                    assert_refused(self, NoText, read_weather, other)


if __name__ == "__main__":
    unittest.main()
