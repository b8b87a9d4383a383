"""Points 11 to 18: what stands in a house, its deeds, their refusals and their taking back; with them point 1."""

import itertools
import string
import unittest

from cases import DEEDS, Dice, do, due_refusals, made_by, rounded_up, should_stand, stands, thrown_deed
from stairgauge import errors
from stairgauge.house import House

FAR = 10 ** 30
LETTERS = string.ascii_lowercase
TWELVE = ["m" + letter for letter in LETTERS[:12]]
TWENTY_FOUR = ["d" + letter for letter in LETTERS[:24]]
NO_NAMES = ["", " ", "A", "Door", "door ", "do or", "a1", "a_b", "ninesigns", "a" * 60, "~" * 60]


def two_members():
    return [("add_member", ("door",)), ("add_member", ("stair",))]


class HouseTest(unittest.TestCase):
    def refuse(self, refusal, deed, *words):
        with self.subTest(deed=deed.__name__, words=words):
            with self.assertRaises(getattr(errors, refusal)) as caught:
                deed(*words)
            self.assertIs(type(caught.exception), getattr(errors, refusal))

    def check_stands(self, house, members, demands, tops):
        self.assertEqual(stands(house), (members, demands, tops))
        for told in stands(house):
            self.assertIs(type(told), list)
        for row in house.demands() + house.tops():
            self.assertIs(type(row), tuple)

    def take_all_back(self, house, deeds):
        """Each deed is taken back in turn, and behind each stands what stood ahead of it."""
        left = list(deeds)
        while left:
            self.assertIsNone(house.take_back())
            left.pop()
            self.assertEqual(stands(house), should_stand(left))
        self.refuse("NothingBack", house.take_back)


class StandsTest(HouseTest):
    def test_a_new_house(self):
        self.check_stands(House(), [], [], [])

    def test_members_in_the_order_in_which_they_came(self):
        for names in (["door"], ["stair", "door"], ["c", "a", "b"], TWELVE, TWELVE[::-1]):
            house = House()
            for name in names:
                self.assertIsNone(house.add_member(name))
            self.check_stands(house, names, [], [])

    def test_names_of_one_and_of_eight_letters(self):
        house = House()
        for name in ("a", "z", "abcdefgh", "zzzzzzzz"):
            house.add_member(name)
            house.add_plain(name, name, 1, 1, 1)
        self.assertEqual(house.members(), ["a", "z", "abcdefgh", "zzzzzzzz"])
        self.assertEqual([demand[0] for demand in house.demands()], ["a", "z", "abcdefgh", "zzzzzzzz"])

    def test_demands_in_the_order_in_which_they_came(self):
        house = made_by(two_members())
        self.assertIsNone(house.add_plain("c", "stair", 60, 3, 2))
        self.assertIsNone(house.add_link("a", "stair", "door", 14))
        self.assertIsNone(house.add_plain("b", "door", 61, 3, 2))
        self.assertIsNone(house.add_link("aa", "door", "stair", 0))
        told = [
            ("c", "stair", None, 90), ("a", "stair", "door", 14), ("b", "door", None, 92), ("aa", "door", "stair", 0),
        ]
        self.check_stands(house, ["door", "stair"], told, [])

    def test_a_member_that_was_struck_and_comes_again_comes_behind_all_others(self):
        house = made_by([("add_member", (name,)) for name in ("a", "b", "c")])
        self.assertIsNone(house.strike_member("a"))
        self.assertEqual(house.members(), ["b", "c"])
        house.add_member("a")
        self.assertEqual(house.members(), ["b", "c", "a"])
        house.strike_member("c")
        house.strike_member("b")
        house.add_member("b")
        house.add_member("d")
        house.add_member("c")
        self.assertEqual(house.members(), ["a", "b", "d", "c"])

    def test_a_demand_that_was_struck_and_comes_again_comes_behind_all_others(self):
        house = made_by(two_members())
        for name in ("a", "b", "c"):
            house.add_plain(name, "door", 5, 1, 1)
        self.assertIsNone(house.strike_demand("a"))
        self.assertEqual([demand[0] for demand in house.demands()], ["b", "c"])
        house.add_link("a", "door", "stair", 7)
        told = [("b", "door", None, 5), ("c", "door", None, 5), ("a", "door", "stair", 7)]
        self.assertEqual(house.demands(), told)
        house.strike_demand("c")
        house.add_plain("c", "stair", 6, 1, 1)
        self.assertEqual(house.demands(), [told[0], told[2], ("c", "stair", None, 6)])

    def test_a_demand_may_bear_a_member_s_name(self):
        house = made_by(two_members())
        house.add_plain("door", "door", 5, 1, 1)
        house.add_link("stair", "door", "stair", 5)
        house.add_plain("hall", "door", 5, 1, 1)
        house.add_member("hall")
        self.assertEqual(house.members(), ["door", "stair", "hall"])
        self.assertEqual([demand[0] for demand in house.demands()], ["door", "stair", "hall"])
        # To strike the one strikes not the other.
        house.strike_member("hall")
        self.assertEqual(house.members(), ["door", "stair"])
        self.assertEqual([demand[0] for demand in house.demands()], ["door", "stair", "hall"])
        house.strike_demand("door")
        self.assertEqual(house.members(), ["door", "stair"])
        self.refuse("Unknown", house.strike_member, "hall")
        self.refuse("Unknown", house.strike_demand, "door")

    def test_twelve_members_and_one_more(self):
        house = made_by([("add_member", (name,)) for name in TWELVE])
        self.assertEqual(house.members(), TWELVE)
        self.refuse("Full", house.add_member, "more")
        self.assertEqual(house.members(), TWELVE)
        house.strike_member(TWELVE[3])
        house.add_member("more")
        self.assertEqual(house.members(), TWELVE[:3] + TWELVE[4:] + ["more"])
        self.refuse("Full", house.add_member, TWELVE[3])

    def test_twenty_four_demands_and_one_more(self):
        for bring in (
            lambda house, name: house.add_plain(name, "door", 5, 1, 1),
            lambda house, name: house.add_link(name, "door", "stair", 5),
        ):
            house = made_by(two_members())
            for name in TWENTY_FOUR:
                bring(house, name)
            self.assertEqual([demand[0] for demand in house.demands()], TWENTY_FOUR)
            self.refuse("Full", house.add_plain, "more", "door", 5, 1, 1)
            self.refuse("Full", house.add_link, "more", "door", "stair", 5)
            self.assertEqual([demand[0] for demand in house.demands()], TWENTY_FOUR)
            house.strike_demand(TWENTY_FOUR[0])
            bring(house, "more")
            self.assertEqual([demand[0] for demand in house.demands()], TWENTY_FOUR[1:] + ["more"])
            # The demands are full, the members are not.
            house.add_member("hall")

    def test_a_member_s_greatest_width_goes_with_it(self):
        house = made_by(two_members())
        house.set_top("door", 80)
        house.set_top("stair", 90)
        house.strike_member("door")
        self.check_stands(house, ["stair"], [], [("stair", 90)])
        house.add_member("door")
        self.check_stands(house, ["stair", "door"], [], [("stair", 90)])
        house.set_top("door", 70)
        self.check_stands(house, ["stair", "door"], [], [("stair", 90), ("door", 70)])

    def test_greatest_widths_in_the_members_turn(self):
        house = made_by([("add_member", (name,)) for name in ("c", "a", "d", "b")])
        for member, width in (("b", 4), ("a", 2), ("c", 1)):
            self.assertIsNone(house.set_top(member, width))
        self.assertEqual(house.tops(), [("c", 1), ("a", 2), ("b", 4)])
        self.assertIsNone(house.strike_top("a"))
        self.assertEqual(house.tops(), [("c", 1), ("b", 4)])
        house.set_top("a", 9)
        self.assertEqual(house.tops(), [("c", 1), ("a", 9), ("b", 4)])
        house.strike_member("c")
        house.add_member("c")
        house.set_top("c", 5)
        self.assertEqual(house.tops(), [("a", 9), ("b", 4), ("c", 5)])
        self.assertEqual(house.members(), ["a", "d", "b", "c"])


class NumbersTest(HouseTest):
    def setUp(self):
        self.house = made_by(two_members())

    def test_a_plain_demand_asks_for_the_portion(self):
        for numbers, told in (
            ((60, 3, 2), 90), ((61, 3, 2), 92), ((0, 999, 1), 0), ((1, 1, 999), 1), ((123, 813, 1), 99999),
            ((999, 999, 999), 999), ((999, 999, 10), 99801),
        ):
            self.house.add_plain("a", "stair", *numbers)
            self.assertEqual(self.house.demands(), [("a", "stair", None, told)])
            self.house.strike_demand("a")

    def test_numbers_of_a_plain_demand_outside_their_ranges(self):
        for numbers in (
            (-1, 1, 1), (1000, 1, 1), (1, 0, 1), (1, 1000, 1), (1, 1, 0), (1, 1, 1000), (FAR, 1, 1), (-FAR, 1, 1),
            (1, FAR, 1), (1, -FAR, 1), (1, 1, FAR), (1, 1, -FAR), (FAR, FAR, FAR), (0, 0, 0),
        ):
            self.refuse("BadNumber", self.house.add_plain, "a", "door", *numbers)
        self.assertEqual(self.house.demands(), [])

    def test_a_portion_that_is_too_much(self):
        for numbers in ((999, 999, 1), (125, 800, 1), (453, 883, 4)):
            self.refuse("TooMuch", self.house.add_plain, "a", "door", *numbers)
        self.assertEqual(self.house.demands(), [])

    def test_a_link_s_more(self):
        for more in (0, 1, 14, 98, 99):
            self.house.add_link("a", "stair", "door", more)
            self.assertEqual(self.house.demands(), [("a", "stair", "door", more)])
            self.house.strike_demand("a")
        for more in (-1, 100, 101, 99999, FAR, -FAR):
            self.refuse("BadNumber", self.house.add_link, "a", "stair", "door", more)
        self.assertEqual(self.house.demands(), [])

    def test_a_link_whose_base_is_the_member_itself(self):
        for more in (0, 5):
            self.house.add_link("a", "stair", "stair", more)
            self.assertEqual(self.house.demands(), [("a", "stair", "stair", more)])
            self.house.strike_demand("a")

    def test_a_greatest_width(self):
        for width in (0, 1, 110, 99998, 99999):
            self.house.set_top("stair", width)
            self.assertEqual(self.house.tops(), [("stair", width)])
            self.house.strike_top("stair")
        for width in (-1, 100000, 100001, FAR, -FAR):
            self.refuse("BadNumber", self.house.set_top, "stair", width)
        self.assertEqual(self.house.tops(), [])

    def test_a_second_greatest_width_of_the_same_member(self):
        for width in (0, 90):
            self.house.set_top("stair", width)
            for other in (0, 90, 91, -1, 100000, FAR):
                self.refuse("InUse", self.house.set_top, "stair", other)
            self.assertEqual(self.house.tops(), [("stair", width)])
            self.house.strike_top("stair")

    def test_a_greatest_width_below_what_a_demand_asks_is_no_refusal(self):
        self.house.add_plain("a", "door", 60, 3, 2)
        self.house.set_top("door", 10)
        self.house.add_link("r", "door", "door", 3)
        self.assertEqual(self.house.tops(), [("door", 10)])


class StrikeTest(HouseTest):
    def test_what_does_not_stand(self):
        house = made_by(two_members() + [("add_plain", ("a", "door", 5, 1, 1)), ("set_top", ("door", 9))])
        for name in ["gate", "a"] + NO_NAMES:
            self.refuse("Unknown", house.strike_member, name)
            self.refuse("Unknown", house.strike_top, name)
        for name in ["b", "door"] + NO_NAMES:
            self.refuse("Unknown", house.strike_demand, name)
        # A member without a greatest width.
        self.refuse("Unknown", house.strike_top, "stair")
        house.strike_top("door")
        self.refuse("Unknown", house.strike_top, "door")

    def test_a_greatest_width_of_nought_is_one(self):
        house = made_by(two_members() + [("set_top", ("door", 0))])
        self.refuse("InUse", house.set_top, "door", 5)
        house.strike_top("door")
        self.assertEqual(house.tops(), [])

    def test_a_member_that_a_demand_speaks_of(self):
        house = made_by(two_members() + [("add_member", ("hall",)), ("add_link", ("a", "stair", "door", 4))])
        self.refuse("InUse", house.strike_member, "stair")
        self.refuse("InUse", house.strike_member, "door")
        house.strike_member("hall")
        house.add_plain("b", "door", 5, 1, 1)
        house.strike_demand("a")
        self.refuse("InUse", house.strike_member, "door")
        house.strike_member("stair")
        house.add_link("c", "door", "door", 0)
        house.strike_demand("b")
        self.refuse("InUse", house.strike_member, "door")
        house.strike_demand("c")
        house.strike_member("door")
        self.check_stands(house, [], [], [])

    def test_a_demand_that_bears_the_member_s_name_holds_it_not(self):
        house = made_by(two_members() + [("add_plain", ("stair", "door", 5, 1, 1))])
        house.strike_member("stair")
        self.check_stands(house, ["door"], [("stair", "door", None, 5)], [])

    def test_a_greatest_width_holds_a_member_not(self):
        house = made_by(two_members() + [("set_top", ("door", 5))])
        house.strike_member("door")
        self.check_stands(house, ["stair"], [], [])


class TakeBackTest(HouseTest):
    # Something of each kind in the middle of its turn.
    AHEAD = [("add_member", (name,)) for name in ("a", "b", "c", "free", "d")] + [
        ("add_plain", ("p", "a", 5, 1, 1)), ("add_link", ("q", "b", "a", 4)), ("add_plain", ("r", "c", 6, 1, 1)),
        ("set_top", ("d", 30)), ("set_top", ("free", 20)), ("set_top", ("a", 10)),
    ]

    def test_a_new_house(self):
        self.refuse("NothingBack", House().take_back)

    def test_each_deed(self):
        for deed, words in (
            ("add_member", ("e",)), ("add_plain", ("s", "b", 60, 3, 2)), ("add_link", ("s", "c", "b", 9)),
            ("set_top", ("b", 77)), ("strike_member", ("free",)), ("strike_demand", ("q",)), ("strike_top", ("free",)),
            ("strike_top", ("a",)), ("strike_demand", ("p",)), ("strike_demand", ("r",)),
        ):
            with self.subTest(deed=deed, words=words):
                house = made_by(self.AHEAD)
                ahead = stands(house)
                self.assertIsNone(getattr(house, deed)(*words))
                self.assertNotEqual(stands(house), ahead)
                self.assertIsNone(house.take_back())
                self.assertEqual(stands(house), ahead)
                # The deed can come as a new one, and is taken back again.
                getattr(house, deed)(*words)
                self.assertEqual(stands(house), should_stand(self.AHEAD + [(deed, words)]))
                self.take_all_back(house, self.AHEAD + [(deed, words)])

    def test_what_was_struck_comes_back_in_its_old_turn(self):
        house = made_by(self.AHEAD)
        house.strike_member("free")
        house.strike_demand("q")
        house.strike_top("a")
        tops = [("a", 10), ("free", 20), ("d", 30)]
        demands = [("p", "a", None, 5), ("q", "b", "a", 4), ("r", "c", None, 6)]
        self.check_stands(house, ["a", "b", "c", "d"], demands[:1] + demands[2:], tops[2:])
        house.take_back()
        self.check_stands(house, ["a", "b", "c", "d"], demands[:1] + demands[2:], tops[:1] + tops[2:])
        house.take_back()
        self.check_stands(house, ["a", "b", "c", "d"], demands, tops[:1] + tops[2:])
        house.take_back()
        self.check_stands(house, ["a", "b", "c", "free", "d"], demands, tops)

    def test_a_member_struck_and_brought_again(self):
        house = made_by(self.AHEAD)
        house.strike_member("free")
        house.add_member("free")
        self.assertEqual(house.tops(), [("a", 10), ("d", 30)])
        house.take_back()
        self.assertEqual(house.members(), ["a", "b", "c", "d"])
        house.take_back()
        self.assertEqual(house.members(), ["a", "b", "c", "free", "d"])
        self.assertEqual(house.tops(), [("a", 10), ("free", 20), ("d", 30)])

    def test_a_deed_that_was_taken_back_is_not_brought_again_by_it(self):
        house = made_by([("add_member", (name,)) for name in ("a", "b", "c")])
        house.take_back()
        house.take_back()
        self.assertEqual(house.members(), ["a"])
        house.add_member("d")
        self.assertEqual(house.members(), ["a", "d"])
        house.take_back()
        self.assertEqual(house.members(), ["a"])
        house.take_back()
        self.assertEqual(house.members(), [])
        self.refuse("NothingBack", house.take_back)
        self.refuse("NothingBack", house.take_back)
        # A refused taking back changes nothing.
        self.assertEqual(house.members(), [])
        house.add_member("e")
        self.refuse("Unknown", house.strike_member, "gate")
        house.take_back()
        self.assertEqual(house.members(), [])

    def test_taking_back_is_no_deed(self):
        house = made_by(two_members())
        house.add_member("hall")
        house.take_back()
        house.take_back()
        self.assertEqual(house.members(), ["door"])

    def test_a_long_day_one_by_one(self):
        house = House()
        deeds = []
        dice = Dice(21)
        while len(deeds) < 150:
            deed, words = thrown_deed(dice, deeds)
            if not due_refusals(deeds, deed, words):
                self.assertIsNone(do(house, deeds, deed, words))
                self.assertEqual(stands(house), should_stand(deeds))
        self.assertEqual(sorted({deed for deed, words in deeds}), sorted(DEEDS))
        self.take_all_back(house, deeds)

    def test_taking_back_in_the_midst_of_days(self):
        for seed in range(60):
            house = House()
            deeds = []
            dice = Dice(seed)
            for turn in range(60):
                if dice.throw(4) == 0 and deeds:
                    self.assertIsNone(house.take_back())
                    deeds.pop()
                else:
                    deed, words = thrown_deed(dice, deeds)
                    due = due_refusals(deeds, deed, words)
                    if due:
                        self.refuse(due[0], getattr(house, deed), *words)
                    else:
                        do(house, deeds, deed, words)
                self.assertEqual(stands(house), should_stand(deeds))
            self.take_all_back(house, deeds)


class FullTest(HouseTest):
    GOOD = (
        ("add_member", ("e",)), ("add_plain", ("s", "door", 60, 3, 2)), ("add_link", ("s", "door", "stair", 9)),
        ("set_top", ("hall", 77)), ("strike_member", ("hall",)), ("strike_demand", ("aa",)),
    )

    def day(self):
        deeds = two_members() + [("add_member", ("hall",)), ("add_plain", ("aa", "door", 5, 1, 1))]
        while len(deeds) < 149:
            deeds += [("set_top", ("door", len(deeds))), ("strike_top", ("door",))]
        deeds = deeds[:149] + [("set_top", ("stair", 4))]
        self.assertEqual(len(deeds), 150)
        return deeds

    def test_150_deeds_are_kept_and_the_next_is_refused(self):
        deeds = self.day()
        house = made_by(deeds)
        ahead = should_stand(deeds)
        self.assertEqual(stands(house), ahead)
        for deed, words in self.GOOD + (("strike_top", ("stair",)),):
            self.refuse("Full", getattr(house, deed), *words)
            self.assertEqual(stands(house), ahead)
        self.take_all_back(house, deeds)

    def test_a_deed_goes_where_one_was_taken_back(self):
        for deed, words in self.GOOD:
            deeds = self.day()
            house = made_by(deeds)
            self.refuse("Full", getattr(house, deed), *words)
            house.take_back()
            deeds.pop()
            do(house, deeds, deed, words)
            self.assertEqual(stands(house), should_stand(deeds))
            self.refuse("Full", house.add_member, "more")
            self.take_all_back(house, deeds)

    def test_149_deeds_leave_room_for_each(self):
        for deed, words in self.GOOD:
            deeds = self.day()[:149]
            house = made_by(deeds)
            do(house, deeds, deed, words)
            self.assertEqual(stands(house), should_stand(deeds))
            self.refuse("Full", house.add_member, "more")

    def test_a_deed_that_was_taken_back_does_not_count(self):
        house = made_by(two_members())
        for turn in range(400):
            house.set_top("door", turn)
            house.take_back()
        self.assertEqual(stands(house), (["door", "stair"], [], []))
        deeds = two_members()
        while len(deeds) < 150:
            do(house, deeds, "set_top", ("door", len(deeds)))
            do(house, deeds, "strike_top", ("door",))
        self.refuse("Full", house.set_top, "door", 5)
        self.take_all_back(house, deeds)

    def test_refused_deeds_do_not_count(self):
        house = made_by(two_members())
        for turn in range(400):
            self.refuse("InUse", house.add_member, "door")
        house.set_top("door", 5)
        self.take_all_back(house, two_members() + [("set_top", ("door", 5))])


def full_house(members, demands, count):
    """Deeds of a house with so many members and demands, and of so many deeds in all.

    The member ma has a greatest width and the member mb none; mc and the member behind it are the member and the base
    of a demand, md is free and has a greatest width if there is one.
    """
    deeds = [("add_member", (name,)) for name in TWELVE[:members]]
    deeds += [("set_top", ("ma", 9))]
    deeds += [("add_link", ("da", "mc", "mb", 4))]
    deeds += [("add_plain", (name, "ma", 5, 1, 1)) for name in TWENTY_FOUR[1:demands]]
    if (count - len(deeds)) % 2 == 1:
        deeds.append(("set_top", ("md", 6)))
    while len(deeds) < count:
        deeds += [("strike_top", ("ma",)), ("set_top", ("ma", len(deeds)))]
    return deeds


HOUSES = [full_house(members, demands, count) for members in (5, 12) for demands in (3, 24) for count in (60, 150)]
NUMBERS = (5, 0, 99, 99999, -1, 100, 100000, FAR, -FAR)
PLAIN_NUMBERS = (
    (60, 3, 2), (0, 1, 1), (999, 999, 10), (999, 999, 1), (125, 800, 1), (-1, 1, 1), (1000, 1, 1), (1, 0, 1),
    (1, 1000, 1), (1, 1, 0), (1, 1, 1000), (FAR, 1, 1), (1, -FAR, 1), (1, 1, FAR), (1000, 999, 1), (999, 1000, 1),
    (FAR, FAR, 1),
)
MEMBERS = ["ma", "mb", "mc", "md", "gate", "da", "", "Gate", "a" * 60]
NEW = ["fresh", "ma", "da", "", "Fresh", "freshfres", "~" * 60]


class RefusalsTest(HouseTest):
    """Point 17: all that can be due at once, of each deed."""

    def words_of(self, deed):
        if deed == "add_member":
            return [(name,) for name in NEW]
        if deed == "add_plain":
            return [(n, m) + numbers for n in NEW for m in MEMBERS for numbers in PLAIN_NUMBERS]
        if deed == "add_link":
            return list(itertools.product(NEW, MEMBERS, MEMBERS, NUMBERS))
        if deed == "set_top":
            return list(itertools.product(MEMBERS, NUMBERS))
        return [(name,) for name in MEMBERS + NEW]

    def check_deed(self, deed, pairs):
        """Each refusal in each house is the first that is due and changes nothing; all that were due are the pairs."""
        seen = set()
        for deeds in HOUSES:
            house = made_by(deeds)
            ahead = stands(house)
            self.assertEqual(ahead, should_stand(deeds))
            for words in self.words_of(deed):
                due = due_refusals(deeds, deed, words)
                seen.update(itertools.combinations(due, 2))
                seen.update((refusal,) for refusal in due)
                if due:
                    self.refuse(due[0], getattr(house, deed), *words)
                    self.assertEqual(stands(house), ahead)
            self.take_all_back(house, deeds)
        self.assertEqual(sorted(seen), sorted(pairs))

    def every(self, *refusals):
        return [(refusal,) for refusal in refusals] + list(itertools.combinations(refusals, 2))

    def test_add_member(self):
        told = self.every("InUse", "BadName", "Full")
        # A name that stands is a name.
        told.remove(("InUse", "BadName"))
        self.check_deed("add_member", told)

    def test_add_plain(self):
        told = self.every("Unknown", "InUse", "BadName", "BadNumber", "TooMuch", "Full")
        told.remove(("InUse", "BadName"))
        # Too much is what has good numbers.
        told.remove(("BadNumber", "TooMuch"))
        self.check_deed("add_plain", told)

    def test_add_link(self):
        told = self.every("Unknown", "InUse", "BadName", "BadNumber", "Full")
        told.remove(("InUse", "BadName"))
        self.check_deed("add_link", told)

    def test_set_top(self):
        told = self.every("Unknown", "InUse", "BadNumber", "Full")
        # What does not stand has no greatest width.
        told.remove(("Unknown", "InUse"))
        self.check_deed("set_top", told)

    def test_strike_member(self):
        told = self.every("Unknown", "InUse", "Full")
        told.remove(("Unknown", "InUse"))
        self.check_deed("strike_member", told)

    def test_strike_demand(self):
        self.check_deed("strike_demand", self.every("Unknown", "Full"))

    def test_strike_top(self):
        self.check_deed("strike_top", self.every("Unknown", "Full"))

    def test_what_is_not_due_is_not_refused(self):
        for deed in DEEDS:
            done = 0
            for deeds in HOUSES[0], HOUSES[4]:
                house = made_by(deeds)
                for words in self.words_of(deed):
                    if not due_refusals(deeds, deed, words):
                        self.assertIsNone(getattr(house, deed)(*words))
                        self.assertEqual(stands(house), should_stand(deeds + [(deed, words)]))
                        house.take_back()
                        self.assertEqual(stands(house), should_stand(deeds))
                        done += 1
            self.assertGreater(done, 0, deed)

    def test_by_hand(self):
        house = made_by(full_house(12, 24, 150))
        for refusal, deed, words in (
            ("Full", house.add_member, ("fresh",)), ("InUse", house.add_member, ("ma",)),
            ("BadName", house.add_member, ("",)),
            ("Unknown", house.add_plain, ("da", "gate", -1, 0, 0)), ("Unknown", house.add_plain, ("", "", FAR, 1, 1)),
            ("InUse", house.add_plain, ("da", "ma", -1, 0, 0)), ("BadName", house.add_plain, ("", "ma", -1, 0, 0)),
            ("BadNumber", house.add_plain, ("fresh", "ma", 1000, 999, 1)),
            ("TooMuch", house.add_plain, ("fresh", "ma", 999, 999, 1)),
            ("Full", house.add_plain, ("fresh", "ma", 5, 1, 1)),
            ("Unknown", house.add_link, ("da", "gate", "ma", -1)),
            ("Unknown", house.add_link, ("da", "ma", "gate", -1)),
            ("Unknown", house.add_link, ("", "ma", "", 100)), ("InUse", house.add_link, ("da", "ma", "mb", 100)),
            ("BadName", house.add_link, ("Da", "ma", "mb", 100)),
            ("BadNumber", house.add_link, ("fresh", "ma", "mb", 100)),
            ("Full", house.add_link, ("fresh", "ma", "mb", 99)),
            ("Unknown", house.set_top, ("gate", -1)), ("InUse", house.set_top, ("ma", -1)),
            ("BadNumber", house.set_top, ("mb", -1)), ("Full", house.set_top, ("mb", 5)),
            ("Unknown", house.strike_member, ("gate",)), ("InUse", house.strike_member, ("mb",)),
            ("InUse", house.strike_member, ("mc",)), ("Full", house.strike_member, ("me",)),
            ("Unknown", house.strike_demand, ("ma",)), ("Full", house.strike_demand, ("da",)),
            ("Unknown", house.strike_top, ("gate",)), ("Unknown", house.strike_top, ("mb",)),
            ("Full", house.strike_top, ("ma",)),
        ):
            self.refuse(refusal, deed, *words)


class SharedTest(HouseTest):
    """Point 1."""

    def test_two_houses_used_in_turn(self):
        houses = [House(), House(), House()]
        days = [[], [], []]
        dice = [Dice(31), Dice(32), Dice(33)]
        for turn in range(240):
            which = turn % 3
            deed, words = thrown_deed(dice[which], days[which])
            if not due_refusals(days[which], deed, words):
                do(houses[which], days[which], deed, words)
            for house, deeds in zip(houses, days):
                self.assertEqual(stands(house), should_stand(deeds))
        self.take_all_back(houses[1], days[1])
        self.assertEqual(stands(houses[0]), should_stand(days[0]))
        self.assertEqual(stands(houses[2]), should_stand(days[2]))
        self.assertEqual(stands(House()), ([], [], []))

    def test_told_lists_that_are_changed_change_nothing(self):
        deeds = two_members() + [
            ("add_plain", ("a", "door", 60, 3, 2)), ("add_link", ("b", "stair", "door", 14)),
            ("set_top", ("stair", 110)),
        ]
        house = made_by(deeds)
        for told in stands(house):
            told.reverse()
            told.append("more")
        self.assertEqual(stands(house), should_stand(deeds))
        for told in stands(house):
            told.clear()
        self.assertEqual(stands(house), should_stand(deeds))
        house.add_member("hall")
        self.assertEqual(stands(house), should_stand(deeds + [("add_member", ("hall",))]))
        for told in stands(house):
            told.clear()
        self.take_all_back(house, deeds + [("add_member", ("hall",))])

    def test_told_lists_stay_when_the_house_goes_on(self):
        house = made_by(two_members())
        house.set_top("door", 9)
        house.add_plain("a", "door", 5, 1, 1)
        told = stands(house)
        house.add_member("hall")
        house.strike_top("door")
        house.strike_demand("a")
        house.take_back()
        self.assertEqual(told, (["door", "stair"], [("a", "door", None, 5)], [("door", 9)]))

    def test_the_portions_of_the_tests_are_as_the_document_rounds(self):
        self.assertEqual([rounded_up(60, 3, 2), rounded_up(61, 3, 2), rounded_up(0, 3, 2)], [90, 92, 0])


if __name__ == "__main__":
    unittest.main()
