"""The interface of closuremill.errors."""

import unittest

from closuremill import errors

NAMES = ("NoTree", "NotClosed", "BadMost", "NoNumber", "NoFunction", "Dry", "NoText")


class Errors(unittest.TestCase):
    def test_mill_error_is_a_value_error(self):
        self.assertEqual(errors.MillError.__bases__, (ValueError,))

    def test_each_refusal_stands_straight_under_mill_error(self):
        for name in NAMES:
            with self.subTest(name=name):
                self.assertEqual(getattr(errors, name).__bases__, (errors.MillError,))

    def test_each_class_is_defined_in_its_file(self):
        for name in NAMES + ("MillError",):
            with self.subTest(name=name):
                kind = getattr(errors, name)
                self.assertEqual(kind.__module__, "closuremill.errors")
                self.assertEqual(kind.__name__, name)

    def test_mill_error_and_value_error_take_each(self):
        for name in NAMES + ("MillError",):
            for taker in (errors.MillError, ValueError):
                with self.subTest(name=name, taker=taker.__name__):
                    with self.assertRaises(taker):
                        raise getattr(errors, name)("why")

    def test_none_takes_another(self):
        for name in NAMES:
            for other in NAMES:
                with self.subTest(name=name, other=other):
                    same = issubclass(getattr(errors, name), getattr(errors, other))
                    self.assertEqual(same, name == other)


if __name__ == "__main__":
    unittest.main()
