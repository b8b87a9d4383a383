"""Point 3: portions, rounded up, within their ranges."""

import unittest

from stairgauge.errors import BadNumber, TooMuch
from stairgauge.portions import portion

FAR = 10 ** 30


class PortionTest(unittest.TestCase):
    def check(self, numbers, told):
        with self.subTest(numbers=numbers):
            answer = portion(*numbers)
            self.assertEqual(answer, told)
            self.assertIs(type(answer), int)

    def refuse(self, numbers, refusal):
        with self.subTest(numbers=numbers):
            with self.assertRaises(refusal) as caught:
                portion(*numbers)
            self.assertIs(type(caught.exception), refusal)

    def test_over_divides(self):
        for numbers, told in (
            ((60, 3, 2), 90), ((1, 1, 1), 1), ((7, 5, 1), 35), ((10, 3, 5), 6), ((12, 12, 144), 1),
            ((3, 333, 999), 1), ((999, 999, 999), 999), ((500, 2, 1), 1000), ((998, 1, 499), 2),
        ):
            self.check(numbers, told)

    def test_over_does_not_divide_and_it_is_rounded_up(self):
        for numbers, told in (
            ((1, 1, 2), 1), ((1, 1, 999), 1), ((61, 3, 2), 92), ((10, 3, 4), 8), ((10, 3, 29), 2),
            ((10, 3, 31), 1), ((7, 7, 10), 5), ((17, 3, 10), 6), ((999, 998, 999), 998), ((998, 999, 997), 1001),
        ):
            self.check(numbers, told)

    def test_no_people(self):
        for each in (1, 2, 500, 999):
            for over in (1, 2, 500, 999):
                self.check((0, each, over), 0)

    def test_it_is_the_least_number_that_is_enough(self):
        for people in (0, 1, 2, 3, 10, 99, 100, 101):
            for each in (1, 2, 3, 7, 50, 99):
                for over in (1, 2, 3, 7, 64, 100, 997, 999):
                    told = portion(people, each, over)
                    with self.subTest(numbers=(people, each, over)):
                        self.assertGreaterEqual(told, 0)
                        self.assertGreaterEqual(told * over, people * each)
                        self.assertTrue(told == 0 or (told - 1) * over < people * each)

    def test_both_ends_of_each_range(self):
        for numbers, told in (
            ((0, 5, 5), 0), ((999, 5, 5), 999), ((6, 1, 4), 2), ((6, 999, 4), 1499), ((6, 4, 1), 24), ((6, 4, 999), 1),
            ((0, 1, 1), 0), ((0, 999, 1), 0), ((0, 1, 999), 0), ((0, 999, 999), 0), ((999, 1, 1), 999),
            ((999, 1, 999), 1), ((999, 999, 10), 99801),
        ):
            self.check(numbers, told)

    def test_one_outside_either_end(self):
        for numbers in (
            (-1, 5, 5), (1000, 5, 5), (5, 0, 5), (5, 1000, 5), (5, 5, 0), (5, 5, 1000),
            (0, 0, 5), (0, 1000, 5), (0, 5, 0), (0, 5, 1000), (5, -1, 5), (5, 5, -1), (-1, -1, 1), (5, -5, -5),
        ):
            self.refuse(numbers, BadNumber)

    def test_as_far_out_as_can_be(self):
        for far in (-FAR, FAR, -(10 ** 9), 10 ** 9):
            for numbers in (
                (far, 5, 5), (5, far, 5), (5, 5, far), (far, far, 5), (5, far, far), (far, 5, far), (far, far, far),
                (0, far, 5), (0, 5, far),
            ):
                self.refuse(numbers, BadNumber)
        self.refuse((FAR, -FAR, 1), BadNumber)
        self.refuse((-FAR, FAR, 0), BadNumber)

    def test_the_greatest_portion_is_told(self):
        for numbers in ((123, 813, 1), (813, 123, 1), (271, 738, 2), (527, 759, 4), (502, 996, 5), (910, 989, 9)):
            self.check(numbers, 99999)
        self.check((129, 775, 1), 99975)

    def test_more_is_too_much(self):
        for numbers in (
            (125, 800, 1), (800, 125, 1), (250, 800, 2), (453, 883, 4), (501, 998, 5), (999, 999, 1), (999, 999, 9),
        ):
            self.refuse(numbers, TooMuch)

    def test_rounding_alone_makes_it_too_much(self):
        self.assertEqual((453 * 883) // 4, 99999)
        self.refuse((453, 883, 4), TooMuch)

    def test_a_bad_number_goes_ahead_of_too_much(self):
        for numbers in (
            (1000, 999, 1), (999, 1000, 1), (FAR, 999, 1), (999, FAR, 1), (999, 999, 0), (999, 999, -1),
            (FAR, FAR, 1), (FAR, FAR, 1000), (-FAR, -FAR, 1), (-FAR, 999, -1), (100000, 1, 1), (1, 100000, 1),
        ):
            self.refuse(numbers, BadNumber)

    def test_numbers_beyond_a_range_that_would_make_an_ordinary_portion(self):
        for numbers in ((1000, 1, 10), (1, 1000, 10), (999, 999, 1000), (-3, -3, 1), (-4, 1, -1)):
            self.refuse(numbers, BadNumber)


if __name__ == "__main__":
    unittest.main()
