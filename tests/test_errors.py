"""The errors, as the interface lists them."""

import unittest

from phasor import errors

NAMES = (
    "NotDivisible", "SizeMismatch", "InvalidGate", "NotClifford", "NotPhaseOnly",
    "NotInvertible", "TooLarge", "InvalidDevice", "UnknownPass", "NotUnitary",
    "NotReady", "InvalidText",
)


class ErrorsTest(unittest.TestCase):
    def test_base_class(self):
        self.assertEqual(errors.PhasorError.__bases__, (ValueError,))

    def test_direct_subclasses(self):
        for name in NAMES:
            with self.subTest(name=name):
                self.assertEqual(getattr(errors, name).__bases__, (errors.PhasorError,))

    def test_all_different(self):
        self.assertEqual(len({getattr(errors, name) for name in NAMES}), 12)

    def test_defined_in_the_file(self):
        for name in NAMES + ("PhasorError",):
            error = getattr(errors, name)
            self.assertEqual((error.__name__, error.__module__), (name, "phasor.errors"))

    def test_raised_and_caught(self):
        for name in NAMES[:-1]:
            with self.assertRaises(ValueError) as caught:
                raise getattr(errors, name)("why")
            self.assertIs(type(caught.exception), getattr(errors, name))

    def test_line_of_invalid_text(self):
        for line in (1, 17, 10 ** 30):
            self.assertEqual(errors.InvalidText(line).line, line)
        with self.assertRaises(errors.PhasorError) as caught:
            raise errors.InvalidText(3)
        self.assertEqual(caught.exception.line, 3)


if __name__ == "__main__":
    unittest.main()
