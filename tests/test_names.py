"""Point 2: a name is a text of 1 to 8 small letters, and no other text is one."""

import unittest

from stairgauge.names import good_name

LETTERS = "abcdefghijklmnopqrstuvwxyz"
SIGNS = [chr(code) for code in range(ord(" "), ord("~") + 1) if chr(code) != "%"]
OTHERS = [sign for sign in SIGNS if sign not in LETTERS]


class NamesTest(unittest.TestCase):
    def check(self, text, told):
        with self.subTest(text=text):
            self.assertIs(good_name(text), told)

    def test_each_single_letter(self):
        for letter in LETTERS:
            self.check(letter, True)

    def test_each_letter_at_each_spot_of_each_length(self):
        for length in range(1, 9):
            for spot in range(length):
                for letter in LETTERS:
                    self.check("m" * spot + letter + "m" * (length - spot - 1), True)

    def test_ordinary_names(self):
        for text in ("door", "stair", "az", "za", "aaaaaaaa", "zzzzzzzz", "abcdefgh", "stuvwxyz", "landing"):
            self.check(text, True)

    def test_the_empty_text(self):
        self.check("", False)

    def test_too_many_letters(self):
        for length in list(range(9, 62)) + [100, 1000]:
            for letter in "amz":
                self.check(letter * length, False)

    def test_the_signs_that_the_tests_walk(self):
        self.assertEqual(len(SIGNS), 94)
        self.assertEqual(len(OTHERS), 68)
        for sign in "AZ09 _-`{~":
            self.assertIn(sign, OTHERS)

    def test_another_sign_by_itself(self):
        for sign in OTHERS:
            self.check(sign, False)

    def test_another_sign_at_any_spot_of_what_is_else_a_name(self):
        for sign in OTHERS:
            for name in ("a", "az", "door", "landing"):
                for spot in range(len(name) + 1):
                    self.check(name[:spot] + sign + name[spot:], False)

    def test_another_sign_in_the_place_of_a_letter(self):
        for sign in OTHERS:
            for name in ("za", "stair", "abcdefgh"):
                for spot in range(len(name)):
                    self.check(name[:spot] + sign + name[spot + 1:], False)

    def test_each_pair_of_signs(self):
        for first in SIGNS:
            for second in SIGNS:
                self.check(first + second, first in LETTERS and second in LETTERS)

    def test_other_signs_alone(self):
        for text in ("  ", "DOOR", "Door", "dooR", "12345678", "a b", " door", "door ", "a_b", "a-b", "____"):
            self.check(text, False)


if __name__ == "__main__":
    unittest.main()
