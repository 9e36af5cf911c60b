"""The refusals of errors.py."""

import unittest

from signalgraph import errors

NAMES = [
    "NoSize", "NoKind", "NoSources", "NoLine", "NoDelay", "NoValues", "Ringed", "NoDeed", "NoText",
]


class Errors(unittest.TestCase):
    def test_any_refusal_stands_under_value_error(self):
        self.assertEqual(errors.SignalError.__bases__, (ValueError,))
        self.assertEqual(errors.SignalError.__name__, "SignalError")

    def test_each_refusal_stands_under_signal_error_alone(self):
        for name in NAMES:
            with self.subTest(name):
                error = getattr(errors, name)
                self.assertEqual(error.__bases__, (errors.SignalError,))
                self.assertEqual(error.__name__, name)

    def test_each_is_raised_and_caught_by_its_name(self):
        for name in NAMES:
            with self.subTest(name):
                error = getattr(errors, name)
                for above in (error, errors.SignalError, ValueError):
                    with self.assertRaises(above):
                        raise error("why")

    def test_none_takes_another_one(self):
        for name in NAMES:
            for other in NAMES:
                with self.subTest((name, other)):
                    under = issubclass(getattr(errors, name), getattr(errors, other))
                    self.assertEqual(under, name == other)


if __name__ == "__main__":
    unittest.main()
