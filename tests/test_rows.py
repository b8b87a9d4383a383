"""Points 25 and 26: rows read into words and numbers, and every other text refused."""

import itertools
import unittest

from stairgauge.errors import BadRow
from stairgauge.rows import read_row

# Each of the thirteen forms: its fixed words, then w for a word and n for a number.
FORMS = (
    ("member", "w"), ("plain", "wwnnn"), ("link", "wwwn"), ("top", "wn"), ("strike member", "w"),
    ("strike demand", "w"), ("strike top", "w"), ("back", ""), ("widths", ""), ("chain", "w"), ("why", ""),
    ("slack", "w"), ("cost", "w"),
)
WORDS = ("door", "a", "Door", "7", "-1", "", "member", "NAME", "x" * 40, "~", "=", "007", "a_b", "'\"\\{}")
NUMBERS = (
    ("0", 0), ("7", 7), ("007", 7), ("000000", 0), ("000001", 1), ("99999", 99999), ("100000", 100000),
    ("999999", 999999), ("012345", 12345), ("10", 10), ("9", 9), ("00", 0),
)
NO_NUMBERS = (
    "", "0000000", "1000000", "0000007", "1234567", "+1", "-1", "-0", "+0", "1a", "a1", "a", "1.", ".5", "1.5", "1,5",
    "1_0", "_1", "1_", "0x1", "1e3", "1e1", "/", ":", "1/", "9:", "1" * 40, "one", "--", "+",
    # Signs that are not handed in.
    "\t1", "1\n", "\u0661", "\u00b2",
)


def filled(kinds, words, numbers):
    """Words for the w and numbers for the n of a form: the row's words, and what is told for them."""
    words = iter(words)
    numbers = iter(numbers)
    texts, told = [], []
    for kind in kinds:
        if kind == "w":
            word = next(words)
            texts.append(word)
            told.append(word)
        else:
            text, number = next(numbers)
            texts.append(text)
            told.append(number)
    return texts, told


class RowsTest(unittest.TestCase):
    def check(self, row, told):
        with self.subTest(row=row):
            answer = read_row(row)
            self.assertEqual(answer, told)
            self.assertIs(type(answer), tuple)
            self.assertEqual([type(word) for word in answer], [type(word) for word in told])

    def refuse(self, row):
        with self.subTest(row=row):
            with self.assertRaises(BadRow) as caught:
                read_row(row)
            self.assertIs(type(caught.exception), BadRow)


class FormsTest(RowsTest):
    def test_by_hand(self):
        for row, told in (
            ("member door", ("member", "door")),
            ("plain a door 60 3 2", ("plain", "a", "door", 60, 3, 2)),
            ("link b stair door 14", ("link", "b", "stair", "door", 14)),
            ("top stair 110", ("top", "stair", 110)),
            ("strike member door", ("strike", "member", "door")),
            ("strike demand a", ("strike", "demand", "a")),
            ("strike top stair", ("strike", "top", "stair")),
            ("back", ("back",)),
            ("widths", ("widths",)),
            ("chain stair", ("chain", "stair")),
            ("why", ("why",)),
            ("slack door", ("slack", "door")),
            ("cost a", ("cost", "a")),
        ):
            self.check(row, told)

    def test_each_form_with_each_word(self):
        for fixed, kinds in FORMS:
            for words in itertools.permutations(WORDS, kinds.count("w")):
                texts, told = filled(kinds, words, [("5", 5), ("6", 6), ("7", 7)])
                self.check(" ".join(fixed.split() + texts), tuple(fixed.split() + told))

    def test_each_form_with_each_number(self):
        for fixed, kinds in FORMS:
            for numbers in itertools.product(NUMBERS, repeat=kinds.count("n")):
                texts, told = filled(kinds, ("door", "door", "stair"), numbers)
                self.check(" ".join(fixed.split() + texts), tuple(fixed.split() + told))

    def test_a_number_where_a_word_stands_stays_a_word(self):
        self.check("member 007", ("member", "007"))
        self.check("top 5 5", ("top", "5", 5))
        self.check("plain 1 2 3 4 5", ("plain", "1", "2", 3, 4, 5))
        self.check("link 1 2 3 4", ("link", "1", "2", "3", 4))
        self.check("strike top 5", ("strike", "top", "5"))

    def test_empty_words(self):
        self.check("member ", ("member", ""))
        self.check("chain ", ("chain", ""))
        self.check("cost ", ("cost", ""))
        self.check("top  5", ("top", "", 5))
        self.check("strike member ", ("strike", "member", ""))
        self.check("plain   1 2 3", ("plain", "", "", 1, 2, 3))
        self.check("plain a  1 2 3", ("plain", "a", "", 1, 2, 3))
        self.check("link    5", ("link", "", "", "", 5))
        self.check("link  a  5", ("link", "", "a", "", 5))

    def test_noughts_in_front(self):
        self.check("top door 007", ("top", "door", 7))
        self.check("top door 000000", ("top", "door", 0))
        self.check("plain a b 000001 02 003", ("plain", "a", "b", 1, 2, 3))


class BadRowsTest(RowsTest):
    def test_no_words(self):
        for row in ("", " ", "  ", " " * 60):
            self.refuse(row)

    def test_blanks(self):
        for row in (
            " member door", "member door ", "member  door", " back", "back ", " widths", "widths ", "why ", "  why",
            "top  door 5", "top door  5", "top door 5 ", " top door 5", "strike  member door", "strike member door ",
            "strike  top", "plain a door  60 3 2", "plain a door 60 3 2 ", "link b stair door 14 ", "chain stair ",
            "chain  stair", "slack door  ", "strike  ", "top  ", "strike top  ",
        ):
            self.refuse(row)

    def test_too_few_and_too_many_words(self):
        for fixed, kinds in FORMS:
            texts, told = filled(kinds, ("door", "door", "stair"), [("5", 5), ("6", 6), ("7", 7)])
            row = fixed.split() + texts
            self.check(" ".join(row), tuple(fixed.split() + told))
            for more in ("x", "5", "", row[-1]):
                self.refuse(" ".join(row + [more]))
                self.refuse(" ".join([more] + row))
            for length in range(1, len(row)):
                self.refuse(" ".join(row[:length]))

    def test_another_first_word(self):
        for fixed, kinds in FORMS:
            texts, told = filled(kinds, ("door", "door", "stair"), [("5", 5), ("6", 6), ("7", 7)])
            rest = fixed.split()[1:] + texts
            first = fixed.split()[0]
            for other in (
                first.capitalize(), first.upper(), first[:-1], first + "s", first + first, first + ",",
                first[:-1] + first[-1].upper(), "x", "NAME", "add_" + first, "",
            ):
                self.refuse(" ".join([other] + rest))

    def test_what_is_struck_is_one_of_three(self):
        for word in ("Member", "MEMBER", "demands", "tops", "link", "plain", "a", "", "strike", "DEMAND", "Top"):
            self.refuse(f"strike {word} door")
        for row in ("strike", "strike ", "strike door", "strike member", "strike top", "strike demand", "strike 5"):
            self.refuse(row)

    def test_what_is_no_number(self):
        for fixed, kinds in FORMS:
            for spot in range(kinds.count("n")):
                for bad in NO_NUMBERS:
                    numbers = [("5", 5), ("6", 6), ("7", 7)]
                    numbers[spot] = (bad, 0)
                    texts, told = filled(kinds, ("door", "door", "stair"), numbers)
                    self.refuse(" ".join(fixed.split() + texts))

    def test_each_sign_in_a_number(self):
        for code in range(ord(" "), ord("~") + 1):
            sign = chr(code)
            for text in (sign, sign + "5", "5" + sign, "5" + sign + "5"):
                if sign in "0123456789":
                    self.check(f"top door {text}", ("top", "door", int(text)))
                else:
                    self.refuse(f"top door {text}")

    def test_other_texts(self):
        for row in (
            "members", "demands", "tops", "add_member door", "take_back", "set top door 5", "strike_top door", "done",
            "member NAME MEMBER", "plain door 60 3 2", "plain a door 60 3", "link b stair door", "x" * 60, "~" * 60,
            "top door wide", "help", "quit", "#", "back 1", "widths door", "why door", "chain", "slack", "cost",
        ):
            self.refuse(row)

    def test_words_are_cut_at_blanks_alone(self):
        for row in ("member,door", "member=door", "member\tdoor", "back\n", "top door\t5", "widths\t"):
            self.refuse(row)


if __name__ == "__main__":
    unittest.main()
