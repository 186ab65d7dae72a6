"""The error classes, as the interface lists them."""

import inspect
import unittest

from flashkeep import errors
from flashkeep.errors import FlashError

NAMES = """
NoWidth NoNumber NoWord NoFields NoWeather NoBlock NoPage NoPlan NoFlash NoOrder NoOrders NoPlace NoPaper NoText
NoLine Off Written Bad Spoilt NoRoom Worn Over
""".split()


class ErrorsTest(unittest.TestCase):
    def test_flash_error_is_straight_under_value_error(self):
        self.assertEqual(FlashError.__bases__, (ValueError,))

    def test_each_is_straight_under_flash_error(self):
        for name in NAMES:
            with self.subTest(name):
                self.assertEqual(getattr(errors, name).__bases__, (FlashError,))

    def test_each_has_its_own_name(self):
        for name in NAMES:
            with self.subTest(name):
                self.assertEqual(getattr(errors, name).__name__, name)

    def test_there_are_no_others(self):
        found = [name for name, thing in vars(errors).items() if inspect.isclass(thing)]
        self.assertEqual(sorted(found), sorted(NAMES + ["FlashError"]))

    def test_each_is_made_with_a_text_and_raised(self):
        for name in NAMES + ["FlashError"]:
            with self.subTest(name):
                made = getattr(errors, name)("why it is refused")
                self.assertEqual(str(made), "why it is refused")
                with self.assertRaises(FlashError):
                    raise made

    def test_none_is_caught_as_another(self):
        for name in NAMES:
            for other in NAMES:
                if name != other:
                    self.assertFalse(issubclass(getattr(errors, name), getattr(errors, other)), (name, other))


if __name__ == "__main__":
    unittest.main()
