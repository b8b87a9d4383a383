"""The refusals of the interface: their classes, bases and how they are caught."""

import unittest

from stairgauge.errors import (
    BadName, BadNumber, BadRow, Full, GaugeError, InUse, NothingBack, NoWidths, TooMuch, Unknown,
)

REFUSALS = [Unknown, InUse, BadName, BadNumber, TooMuch, Full, NothingBack, NoWidths, BadRow]


class ErrorsTest(unittest.TestCase):
    def test_gauge_error_stands_under_value_error_alone(self):
        self.assertEqual(GaugeError.__bases__, (ValueError,))

    def test_each_refusal_stands_straight_under_gauge_error_alone(self):
        for refusal in REFUSALS:
            with self.subTest(refusal=refusal.__name__):
                self.assertEqual(refusal.__bases__, (GaugeError,))

    def test_no_two_are_the_same_class(self):
        self.assertEqual(len(set(REFUSALS + [GaugeError])), 10)

    def test_each_bears_its_own_name(self):
        names = ["Unknown", "InUse", "BadName", "BadNumber", "TooMuch", "Full", "NothingBack", "NoWidths", "BadRow"]
        self.assertEqual([refusal.__name__ for refusal in REFUSALS], names)
        self.assertEqual(GaugeError.__name__, "GaugeError")

    def test_each_is_caught_as_itself_and_by_what_it_stands_under(self):
        for refusal in REFUSALS:
            for catcher in (refusal, GaugeError, ValueError):
                with self.subTest(refusal=refusal.__name__, catcher=catcher.__name__):
                    with self.assertRaises(catcher) as caught:
                        raise refusal("these words")
                    self.assertIs(type(caught.exception), refusal)
                    self.assertEqual(str(caught.exception), "these words")

    def test_gauge_error_is_caught_as_itself_and_as_value_error(self):
        for catcher in (GaugeError, ValueError):
            with self.assertRaises(catcher):
                raise GaugeError("these words")

    def test_none_is_caught_by_another(self):
        for refusal in REFUSALS + [GaugeError]:
            others = tuple(other for other in REFUSALS if other is not refusal)
            with self.subTest(refusal=refusal.__name__):
                try:
                    raise refusal("these words")
                except others as caught_by_another:
                    self.fail(repr(caught_by_another))
                except refusal:
                    pass


if __name__ == "__main__":
    unittest.main()
