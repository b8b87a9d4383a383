"""Each range and count that stairgauge.bounds holds is the one that its point tells."""

import unittest

from stairgauge import bounds

TOLD = {
    "NAME_SIGNS": (1, 8),        # point 2
    "PEOPLE": (0, 999),          # point 3
    "EACH": (1, 999),            # point 3
    "OVER": (1, 999),            # point 3
    "PORTION_MOST": 99999,       # point 3
    "MEMBERS_MOST": 12,          # points 11 and 17
    "DEMANDS_MOST": 24,          # points 11 and 17
    "LINK_MORE": (0, 99),        # point 13
    "TOP_WIDTH": (0, 99999),     # point 14
    "DEEDS_MOST": 150,           # points 16 and 17
    "NUMBER_SIGNS": (1, 6),      # point 25
}


class BoundsTest(unittest.TestCase):
    def test_each_is_as_told_and_none_is_untested(self):
        held = {name: value for name, value in vars(bounds).items() if name.isupper()}
        self.assertEqual(held, TOLD)

    def test_inside_takes_both_ends_and_nothing_beyond(self):
        for least, most in ((1, 8), (0, 999), (0, 0), (-5, -2)):
            with self.subTest(least=least, most=most):
                self.assertIs(bounds.inside(least, (least, most)), True)
                self.assertIs(bounds.inside(most, (least, most)), True)
                self.assertIs(bounds.inside(least - 1, (least, most)), False)
                self.assertIs(bounds.inside(most + 1, (least, most)), False)

    def test_inside_at_the_ends_of_what_is_handed_in(self):
        for number in (-(10 ** 30), 10 ** 30):
            self.assertIs(bounds.inside(number, (0, 99999)), False)
            self.assertIs(bounds.inside(number, (-(10 ** 30), 10 ** 30)), True)


if __name__ == "__main__":
    unittest.main()
