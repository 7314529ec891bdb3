"""The row of tickbook/errors.py in the interface."""

import unittest

from tickbook.errors import BadWheels, NotThere, Past, TickError

BELOW = (BadWheels, Past, NotThere)


class ErrorClasses(unittest.TestCase):
    def test_tick_error_is_a_value_error(self):
        self.assertTrue(issubclass(TickError, ValueError))

    def test_the_others_are_tick_errors(self):
        for error in BELOW:
            with self.subTest(error=error.__name__):
                self.assertTrue(issubclass(error, TickError))
                self.assertIsNot(error, TickError)

    def test_none_of_the_three_is_below_another(self):
        for one in BELOW:
            for other in BELOW:
                if one is not other:
                    with self.subTest(one=one.__name__, other=other.__name__):
                        self.assertFalse(issubclass(one, other))

    def test_names(self):
        self.assertEqual(
            [error.__name__ for error in (TickError,) + BELOW],
            ["TickError", "BadWheels", "Past", "NotThere"],
        )

    def test_each_is_taken_as_a_refusal(self):
        for error in BELOW:
            with self.subTest(error=error.__name__):
                with self.assertRaises(TickError):
                    raise error("refused")
                with self.assertRaises(ValueError):
                    raise error("refused")


if __name__ == "__main__":
    unittest.main()
