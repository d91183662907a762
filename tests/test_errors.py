"""The error classes of the interface."""

import unittest

from shorewarn import errors
from shorewarn.errors import FaultyLine, NotExplained, ShoreError

PLAIN = ("BadChart", "NoSuchCell", "BadEvent", "BadReadings", "ClockBack", "NotAGauge",
         "AlreadyReported", "NotInTime", "TooManyDeeds")
ALL = PLAIN + ("FaultyLine", "NotExplained")


class ErrorsTest(unittest.TestCase):
    def test_base_is_a_value_error(self):
        self.assertEqual(ShoreError.__bases__, (ValueError,))

    def test_each_is_directly_under_the_base(self):
        for name in ALL:
            with self.subTest(name=name):
                self.assertEqual(getattr(errors, name).__bases__, (ShoreError,))

    def test_each_is_defined_in_the_file(self):
        for name in ALL + ("ShoreError",):
            with self.subTest(name=name):
                found = getattr(errors, name)
                self.assertEqual((found.__module__, found.__name__), ("shorewarn.errors", name))

    def test_none_is_under_another(self):
        for one in ALL:
            for two in ALL:
                if one != two:
                    with self.subTest(one=one, two=two):
                        self.assertFalse(issubclass(getattr(errors, one), getattr(errors, two)))

    def test_those_without_fields_are_made_without_arguments(self):
        for name in PLAIN:
            with self.subTest(name=name):
                error = getattr(errors, name)()
                self.assertEqual(vars(error), {})
                with self.assertRaises(ShoreError):
                    raise error

    def test_faulty_line_has_its_line(self):
        for line in (1, 2, 17):
            error = FaultyLine(line)
            self.assertEqual(vars(error), {"line": line})
            self.assertIs(type(error.line), int)
        with self.assertRaises(FaultyLine) as caught:
            raise FaultyLine(3)
        self.assertEqual(caught.exception.line, 3)

    def test_not_explained_has_its_refutation(self):
        refutation = ((0, 1), (("start",), ("far",), ("reading", (2, 2))))
        error = NotExplained(refutation)
        self.assertEqual(vars(error), {"refutation": refutation})
        with self.assertRaises(NotExplained) as caught:
            raise NotExplained(refutation)
        self.assertEqual(caught.exception.refutation, refutation)


if __name__ == "__main__":
    unittest.main()
