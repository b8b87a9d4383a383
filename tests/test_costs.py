"""Points 5 and 10: what a rule costs; with them point 1 for its lists."""

import itertools
import unittest

from cases import SMALL_MOST, chain_least, round_of, search_least, small_lists, thrown_lists, tied_lists, without_ring
from stairgauge.costs import cost_of

# A plain rule and eleven links in a row, from member 0 to member 11.
ROW = [(0, -1, 90)] + [(place + 1, place, place) for place in range(11)]


class CostsTest(unittest.TestCase):
    def check(self, count, rules, told):
        """The costs of all rules, in the order of their places."""
        for place, cost in enumerate(told):
            with self.subTest(count=count, rules=rules, place=place):
                answer = cost_of(count, rules, place)
                self.assertEqual(answer, cost)
                self.assertIs(type(answer), int)
        self.assertEqual(len(told), len(rules))

    def test_the_only_rule(self):
        for more in (0, 1, 90, 99999):
            self.check(1, [(0, -1, more)], [more])
            self.check(12, [(11, -1, more)], [more])
        for more in (0, 1, 99):
            self.check(2, [(1, 0, more)], [more])
        self.check(1, [(0, 0, 0)], [0])

    def test_a_rule_that_forces_nothing(self):
        self.check(1, [(0, -1, 0)], [0])
        self.check(1, [(0, -1, 90), (0, -1, 80)], [10, 0])
        self.check(2, [(0, -1, 90), (1, 0, 14), (1, -1, 104)], [90, 0, 0])
        self.check(2, [(0, -1, 90), (1, 0, 14), (1, -1, 103)], [91, 1, 0])
        self.check(2, [(0, -1, 90), (0, 1, 14)], [76, 0])
        self.check(2, [(0, -1, 90), (0, 0, 0)], [90, 0])

    def test_a_rule_alike_another(self):
        self.check(1, [(0, -1, 9), (0, -1, 9)], [0, 0])
        self.check(2, [(1, 0, 9), (0, -1, 4), (1, 0, 9)], [0, 8, 0])

    def test_a_rule_that_widens_several_members(self):
        self.check(2, [(0, -1, 90), (1, 0, 14)], [180, 104])
        self.check(2, [(1, 0, 14), (0, -1, 90)], [104, 180])
        self.check(4, [(0, -1, 10), (1, 0, 5), (2, 1, 0), (3, 2, 7)], [40, 45, 30, 22])
        # Members that something else holds grow less, or not at all.
        self.check(3, [(0, -1, 10), (1, 0, 5), (1, -1, 12), (2, 0, 1), (2, -1, 11)], [10 + 3 + 0, 3, 0, 0, 0])

    def test_links_that_lead_round_and_sum_to_nought(self):
        for size in range(1, 13):
            rules = round_of(size, [0] * size) + [(0, -1, 33)]
            # Each link but the last holds up all behind it.
            self.check(size, rules, [33 * (size - 1 - place) for place in range(size)] + [33 * size])

    def test_twelve_members_and_twenty_four_rules(self):
        widths = [90, 90, 91, 93, 96, 100, 105, 111, 118, 126, 135, 145]
        self.assertEqual(cost_of(12, ROW, 0), 90 * 12)
        for place in range(1, 12):
            # Without the link its on is 0 wide and what hangs on it as much narrower.
            self.assertEqual(cost_of(12, ROW, place), widths[place] * (12 - place))
        rest = [(place, -1, 50) for place in range(12)]
        self.assertEqual(len(ROW + rest), 24)
        self.assertEqual(cost_of(12, ROW + rest, 0), 40 * 12)
        for place in range(1, 12):
            self.assertEqual(cost_of(12, ROW + rest, place), (widths[place] - 50) * (12 - place))
            self.assertEqual(cost_of(12, ROW + rest, 12 + place), 0)
            self.assertEqual(cost_of(12, rest + ROW, place), 0)
            self.assertEqual(cost_of(12, rest + ROW, 12 + place), (widths[place] - 50) * (12 - place))
        self.check(12, ROW + ROW, [0] * 24)

    def test_the_widest_that_can_be(self):
        rules = [(0, -1, 99999)] + [(place + 1, place, 99) for place in range(11)]
        self.assertEqual(cost_of(12, rules, 0), 99999 * 12)
        self.assertEqual(cost_of(12, rules, 11), 99999 + 99 * 11)

    def test_every_small_list_against_the_sums_with_and_without_the_rule(self):
        for count, rules in without_ring(small_lists()):
            for place in range(len(rules)):
                others = [rule for other, rule in enumerate(rules) if other != place]
                told = sum(search_least(count, rules, SMALL_MOST)) - sum(search_least(count, others, SMALL_MOST))
                self.assertEqual(cost_of(count, rules, place), told, (count, rules, place))

    def test_bigger_lists_against_the_sums_with_and_without_the_rule(self):
        nought = 0
        some = 0
        for count, rules in itertools.chain(without_ring(thrown_lists()), tied_lists()):
            least = sum(chain_least(count, rules))
            for place in range(len(rules)):
                others = [rule for other, rule in enumerate(rules) if other != place]
                cost = cost_of(count, rules, place)
                self.assertEqual(cost, least - sum(chain_least(count, others)), (count, rules, place))
                nought += cost == 0
                some += cost > 0
        self.assertGreater(min(nought, some), 500)


class ListsTest(unittest.TestCase):
    def lists(self):
        yield 1, [(0, -1, 5)]
        yield 12, list(ROW)
        yield from itertools.islice(tied_lists(), 40)

    def test_the_rules_stay_as_they_are(self):
        for count, rules in self.lists():
            ahead = list(rules)
            for place in range(len(rules)):
                cost_of(count, rules, place)
                self.assertEqual(rules, ahead)
            self.assertEqual([type(rule) for rule in rules], [tuple] * len(rules))

    def test_an_answer_does_not_hang_on_those_before_it(self):
        cases = [(count, rules, place) for count, rules in self.lists() for place in range(len(rules))]
        ahead = [cost_of(*case) for case in cases]
        behind = [cost_of(*case) for case in reversed(cases)]
        self.assertEqual(behind[::-1], ahead)


if __name__ == "__main__":
    unittest.main()
