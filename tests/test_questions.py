"""Points 19 to 24: the questions of a house; with them point 1."""

import unittest

from cases import (
    Dice, all_told, asked, chain_least, do, due_refusals, has_ring, is_link, made_anew, made_by, rules_of,
    search_chains, search_wide, should_stand, stands, thrown_deed, ways_slack,
)
from stairgauge import errors
from stairgauge.house import House

# The house of the document's own rows, and a member that stands by itself.
HOUSE = [
    ("add_member", ("door",)), ("add_member", ("stair",)), ("add_member", ("hall",)),
    ("add_plain", ("a", "door", 60, 3, 2)), ("add_link", ("b", "stair", "door", 14)),
]
RING = [("add_link", ("c", "door", "stair", 0))]
WIDE = [("set_top", ("stair", 103))]


class HouseTest(unittest.TestCase):
    def refuse(self, refusal, question, *words):
        with self.subTest(question=question.__name__, words=words):
            with self.assertRaises(getattr(errors, refusal)) as caught:
                question(*words)
            self.assertIs(type(caught.exception), getattr(errors, refusal))

    def check_ring(self, house):
        """Each word of point 6, of the names that why tells."""
        count, rules, tops = rules_of(house)
        why = house.why()
        self.assertIs(type(why), tuple)
        self.assertEqual(len(why), 2)
        self.assertEqual(why[0], "ring")
        self.assertIs(type(why[1]), list)
        names = [demand[0] for demand in house.demands()]
        ring = [rules[names.index(name)] for name in why[1]]
        self.assertGreaterEqual(len(ring), 1)
        self.assertTrue(all(is_link(rule) for rule in ring))
        for spot, rule in enumerate(ring):
            self.assertEqual(rule[1], ring[spot - 1][0])
        self.assertEqual(len({rule[0] for rule in ring}), len(ring))
        self.assertGreater(sum(rule[2] for rule in ring), 0)

    def check_all(self, house):
        """Every question against searches over the rules that the house's own demands tell."""
        count, rules, tops = rules_of(house)
        members = house.members()
        names = [demand[0] for demand in house.demands()]
        if has_ring(rules):
            self.check_ring(house)
            self.check_no_widths(house)
            return "ring"
        least = chain_least(count, rules)
        chains = [
            [names[place] for place in search_chains(rules, member, least[member], 12)[0]] if least[member] else []
            for member in range(count)
        ]
        wide = search_wide(least, tops)
        if wide is not None:
            self.assertEqual(house.why(), ("wide", members[wide], chains[wide]))
            self.check_no_widths(house)
            return "wide"
        self.assertIsNone(house.why())
        self.assertEqual(house.widths(), least)
        for place, member in enumerate(members):
            self.assertEqual(house.chain(member), chains[place])
            slack = ways_slack(count, rules, tops, place)
            self.assertEqual(house.slack(member), None if slack is None else (slack[0], members[slack[1]]))
        for place, name in enumerate(names):
            others = rules[:place] + rules[place + 1:]
            self.assertEqual(house.cost(name), sum(least) - sum(chain_least(count, others)))
        return "fits"

    def check_no_widths(self, house):
        self.refuse("NoWidths", house.widths)
        for member in house.members():
            self.refuse("NoWidths", house.chain, member)
            self.refuse("NoWidths", house.slack, member)
        for name, member, base, number in house.demands():
            self.refuse("NoWidths", house.cost, name)
        for unknown in ("nobody", "", "Door", "a" * 60):
            self.refuse("Unknown", house.chain, unknown)
            self.refuse("Unknown", house.slack, unknown)
            self.refuse("Unknown", house.cost, unknown)


class AnswersTest(HouseTest):
    def test_an_empty_house(self):
        house = House()
        self.assertEqual(house.widths(), [])
        self.assertIsNone(house.why())
        for name in ("door", "", "Door"):
            self.refuse("Unknown", house.chain, name)
            self.refuse("Unknown", house.slack, name)
            self.refuse("Unknown", house.cost, name)

    def test_members_without_demands(self):
        house = made_by(HOUSE[:3])
        self.assertEqual(house.widths(), [0, 0, 0])
        self.assertIsNone(house.why())
        for member in ("door", "stair", "hall"):
            self.assertEqual(house.chain(member), [])
            self.assertIsNone(house.slack(member))

    def test_where_there_are_widths(self):
        house = made_by(HOUSE)
        self.assertEqual(house.widths(), [90, 104, 0])
        self.assertIs(type(house.widths()), list)
        self.assertEqual(house.chain("door"), ["a"])
        self.assertEqual(house.chain("stair"), ["a", "b"])
        self.assertEqual(house.chain("hall"), [])
        self.assertIsNone(house.why())
        self.assertEqual(house.cost("a"), 180)
        self.assertEqual(house.cost("b"), 104)
        self.assertIsNone(house.slack("door"))
        house.set_top("stair", 110)
        self.assertEqual(house.slack("door"), (6, "stair"))
        self.assertEqual(house.slack("stair"), (6, "stair"))
        self.assertIsNone(house.slack("hall"))
        self.assertIs(type(house.slack("door")), tuple)
        self.assertEqual(house.widths(), [90, 104, 0])

    def test_widths_in_the_members_turn(self):
        house = made_by([("add_member", (name,)) for name in ("c", "a", "b")])
        for number, member in enumerate(("a", "b", "c"), start=5):
            house.add_plain(member, member, number, 1, 1)
        self.assertEqual(house.widths(), [7, 5, 6])
        house.strike_demand("c")
        house.strike_member("c")
        self.assertEqual(house.widths(), [5, 6])
        house.add_member("c")
        self.assertEqual(house.widths(), [5, 6, 0])
        house.take_back()
        house.take_back()
        self.assertEqual(house.widths(), [0, 5, 6])
        house.take_back()
        self.assertEqual(house.widths(), [7, 5, 6])

    def test_a_width_at_its_very_greatest_width_fits(self):
        house = made_by(HOUSE + [("set_top", ("stair", 104)), ("set_top", ("door", 90)), ("set_top", ("hall", 0))])
        self.assertEqual(house.widths(), [90, 104, 0])
        self.assertIsNone(house.why())
        self.assertEqual(house.slack("door"), (0, "door"))
        self.assertEqual(house.slack("stair"), (0, "stair"))
        self.assertEqual(house.slack("hall"), (0, "hall"))

    def test_chains_by_the_demands_in_their_turn(self):
        house = made_by(HOUSE[:2])
        house.add_plain("z", "door", 5, 1, 1)
        house.add_plain("a", "door", 5, 1, 1)
        house.add_link("y", "stair", "door", 1)
        house.add_link("b", "stair", "door", 1)
        self.assertEqual(house.chain("stair"), ["z", "y"])
        house.strike_demand("z")
        self.assertEqual(house.chain("stair"), ["a", "y"])
        house.add_plain("z", "door", 5, 1, 1)
        self.assertEqual(house.chain("stair"), ["a", "y"])
        house.strike_demand("y")
        self.assertEqual(house.chain("stair"), ["a", "b"])
        house.take_back()
        house.take_back()
        house.take_back()
        self.assertEqual(house.chain("stair"), ["z", "y"])
        house.add_plain("c", "stair", 6, 1, 1)
        self.assertEqual(house.chain("stair"), ["c"])

    def test_a_chain_of_twelve_demands(self):
        house = House()
        names = ["m" + letter for letter in "abcdefghijkl"]
        for name in names:
            house.add_member(name)
        for on, base in zip(names[:0:-1], names[-2::-1]):
            house.add_link(on, on, base, 99)
        house.add_plain("ma", "ma", 123, 813, 1)
        self.assertEqual(house.chain("ml"), names)
        self.assertEqual(house.widths()[-1], 99999 + 11 * 99)
        self.assertEqual(house.cost("ma"), 99999 * 12)

    def test_a_demand_that_bears_a_member_s_name(self):
        house = made_by(HOUSE[:2])
        house.add_plain("stair", "door", 5, 1, 1)
        house.add_plain("door", "stair", 7, 1, 1)
        self.assertEqual(house.chain("door"), ["stair"])
        self.assertEqual(house.cost("door"), 7)
        self.assertEqual(house.cost("stair"), 5)
        house.set_top("door", 9)
        self.assertEqual(house.slack("door"), (4, "door"))
        house.take_back()
        house.set_top("stair", 6)
        self.assertEqual(house.why(), ("wide", "stair", ["door"]))


class WhyTest(HouseTest):
    def test_a_ring(self):
        house = made_by(HOUSE + RING)
        self.check_ring(house)
        self.assertEqual(sorted(house.why()[1]), ["b", "c"])
        self.check_no_widths(house)
        house.take_back()
        self.assertIsNone(house.why())

    def test_a_ring_of_one_demand(self):
        house = made_by(HOUSE + [("add_link", ("self", "hall", "hall", 1))])
        self.assertEqual(house.why(), ("ring", ["self"]))
        self.check_no_widths(house)
        house.take_back()
        house.add_link("self", "hall", "hall", 0)
        self.assertIsNone(house.why())
        self.assertEqual(house.widths(), [90, 104, 0])

    def test_a_member_that_is_too_wide(self):
        house = made_by(HOUSE + WIDE)
        self.assertEqual(house.why(), ("wide", "stair", ["a", "b"]))
        self.assertIs(type(house.why()), tuple)
        self.assertIs(type(house.why()[2]), list)
        self.check_no_widths(house)
        house.strike_top("stair")
        self.assertIsNone(house.why())
        house.set_top("stair", 104)
        self.assertIsNone(house.why())

    def test_the_first_in_the_members_turn(self):
        house = made_by(HOUSE + [("set_top", ("stair", 0)), ("set_top", ("door", 89))])
        self.assertEqual(house.why(), ("wide", "door", ["a"]))
        house.take_back()
        self.assertEqual(house.why(), ("wide", "stair", ["a", "b"]))
        house.set_top("door", 90)
        self.assertEqual(house.why(), ("wide", "stair", ["a", "b"]))

    def test_with_both_the_ring_is_told(self):
        house = made_by(HOUSE + WIDE + [("set_top", ("door", 0))] + RING)
        self.check_ring(house)
        self.check_no_widths(house)
        # Also where the ring has nothing to do with the member that is too wide.
        house = made_by(HOUSE + WIDE + [("add_link", ("self", "hall", "hall", 5))])
        self.assertEqual(house.why(), ("ring", ["self"]))
        house.take_back()
        self.assertEqual(house.why(), ("wide", "stair", ["a", "b"]))

    def test_links_that_lead_round_and_sum_to_nought(self):
        house = made_by(HOUSE[:4] + [("add_link", ("b", "stair", "door", 0))] + RING)
        self.assertIsNone(house.why())
        self.assertEqual(house.widths(), [90, 90, 0])


class RefusalsTest(HouseTest):
    def test_unknown_ahead_of_no_widths(self):
        for more in (RING, WIDE, RING + WIDE):
            house = made_by(HOUSE + more)
            self.check_no_widths(house)
            # A member's name is no demand's, and the other way.
            self.refuse("Unknown", house.cost, "door")
            self.refuse("Unknown", house.chain, "a")
            self.refuse("Unknown", house.slack, "a")

    def test_what_was_struck_or_taken_back_is_unknown(self):
        house = made_by(HOUSE)
        house.strike_member("hall")
        self.refuse("Unknown", house.chain, "hall")
        self.refuse("Unknown", house.slack, "hall")
        house.strike_demand("b")
        self.refuse("Unknown", house.cost, "b")
        house.take_back()
        house.take_back()
        self.assertEqual(house.chain("hall"), [])
        self.assertEqual(house.cost("b"), 104)
        house.take_back()
        self.refuse("Unknown", house.cost, "b")

    def test_questions_change_nothing(self):
        for more in ([], RING, WIDE, RING + WIDE, [("set_top", ("stair", 110))]):
            deeds = HOUSE + more
            house = made_by(deeds)
            ahead = all_told(house)
            for turn in range(3):
                self.assertEqual(all_told(house), ahead)
            left = list(deeds)
            while left:
                house.take_back()
                left.pop()
                all_told(house)
                self.assertEqual(stands(house), should_stand(left))
            self.refuse("NothingBack", house.take_back)

    def test_questions_are_no_deeds(self):
        house = made_by(HOUSE)
        for turn in range(200):
            all_told(house)
        house.set_top("door", 95)
        self.assertEqual(house.slack("door"), (5, "door"))


class DaysTest(HouseTest):
    def test_every_answer_is_the_one_of_a_house_made_anew(self):
        seen = {"fits": 0, "ring": 0, "wide": 0}
        for seed in range(100, 190):
            house = House()
            deeds = []
            dice = Dice(seed)
            for turn in range(60):
                self.live(house, deeds, dice)
                if turn % 3 == 2:
                    self.assertEqual(all_told(house), all_told(made_anew(house)))
                    self.assertEqual(stands(house), should_stand(deeds))
                if turn % 5 == 4:
                    seen[self.check_all(house)] += 1
        self.assertGreater(min(seen.values()), 30, seen)

    def live(self, house, deeds, dice):
        """A deed, a refusal, a taking back or a question."""
        turn = dice.throw(9)
        if turn == 0 and deeds:
            house.take_back()
            deeds.pop()
        elif turn == 1:
            asked((house.widths, house.why, house.tops, house.members)[dice.throw(4)])
        elif turn == 2:
            asked((house.chain, house.slack, house.cost)[dice.throw(3)], ("door", "stair", "a", "b")[dice.throw(4)])
        else:
            deed, words = thrown_deed(dice, deeds)
            due = due_refusals(deeds, deed, words)
            if due:
                self.refuse(due[0], getattr(house, deed), *words)
            else:
                do(house, deeds, deed, words)


class SharedTest(HouseTest):
    """Point 1."""

    def test_two_houses_used_in_turn(self):
        one, two = made_by(HOUSE), made_by(HOUSE)
        two.add_plain("c", "stair", 200, 1, 1)
        self.assertEqual(one.widths(), [90, 104, 0])
        self.assertEqual(two.widths(), [90, 200, 0])
        one.strike_demand("b")
        self.assertEqual(two.chain("stair"), ["c"])
        self.assertEqual(one.widths(), [90, 0, 0])
        two.take_back()
        self.assertEqual(two.chain("stair"), ["a", "b"])
        self.assertEqual(one.widths(), [90, 0, 0])
        one.take_back()
        one.set_top("stair", 103)
        self.assertEqual(one.why(), ("wide", "stair", ["a", "b"]))
        self.assertIsNone(two.why())
        self.assertIsNone(two.slack("door"))

    def lists_of(self, house):
        """Every list that a house tells, that within what why tells too."""
        told = [house.members(), house.demands(), house.tops(), asked(house.widths)]
        told += [asked(house.chain, member) for member in house.members()]
        told += list(house.why() or ())
        return [one for one in told if isinstance(one, list)]

    def test_told_lists_that_are_changed_change_no_later_answer(self):
        for more, count in (([], 7), (RING, 4), (WIDE, 4), (RING + WIDE, 4)):
            house = made_by(HOUSE + more)
            ahead = all_told(house)
            ring = house.why()
            lists = self.lists_of(house)
            self.assertEqual(len(lists), count)
            for told in lists:
                told.reverse()
                told.append("more")
            self.assertEqual(all_told(house), ahead)
            for told in self.lists_of(house):
                told.clear()
            self.assertEqual(all_told(house), ahead)
            self.assertEqual(house.why(), ring)
            house.take_back()
            self.assertEqual(stands(house), should_stand((HOUSE + more)[:-1]))

    def test_told_lists_stay_when_the_house_goes_on(self):
        house = made_by(HOUSE)
        widths, chain = house.widths(), house.chain("stair")
        house.add_plain("c", "stair", 200, 1, 1)
        self.assertEqual((widths, chain), ([90, 104, 0], ["a", "b"]))
        house.set_top("stair", 0)
        why = house.why()
        house.take_back()
        house.take_back()
        self.assertEqual(why, ("wide", "stair", ["c"]))


if __name__ == "__main__":
    unittest.main()
