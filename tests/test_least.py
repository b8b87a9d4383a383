"""Points 4 and 5: least widths by rules over places; with them point 1 for their lists."""

import itertools
import unittest

from cases import (
    SMALL_MOST, chain_least, has_ring, meets, one_above_nought, ringed_lists, round_of, search_least, small_lists,
    thrown_lists,
)
from stairgauge.least import least_widths

# A plain rule and eleven links in a row, from member 0 to member 11.
ROW = [(0, -1, 90)] + [(place + 1, place, place) for place in range(11)]
ROW_WIDTHS = [90, 90, 91, 93, 96, 100, 105, 111, 118, 126, 135, 145]


class LeastTest(unittest.TestCase):
    def check(self, count, rules, told):
        with self.subTest(count=count, rules=rules):
            answer = least_widths(count, rules)
            self.assertEqual(answer, told)
            if told is not None:
                self.assertIs(type(answer), list)
                self.assertEqual([type(width) for width in answer], [int] * count)
                self.assertTrue(meets(answer, rules))

    def test_no_members_and_no_rules(self):
        self.check(0, [], [])

    def test_members_with_no_rules(self):
        for count in range(1, 13):
            self.check(count, [], [0] * count)

    def test_a_plain_rule(self):
        for more in (0, 1, 90, 99998, 99999):
            self.check(1, [(0, -1, more)], [more])
            self.check(3, [(0, -1, more)], [more, 0, 0])
            self.check(3, [(1, -1, more)], [0, more, 0])
            self.check(3, [(2, -1, more)], [0, 0, more])

    def test_the_greatest_of_several_plain_rules(self):
        for order in itertools.permutations([(0, -1, 5), (0, -1, 80), (0, -1, 0), (1, -1, 7)]):
            self.check(2, list(order), [80, 7])

    def test_a_link(self):
        self.check(2, [(1, 0, 14)], [0, 14])
        self.check(2, [(0, 1, 14)], [14, 0])
        self.check(2, [(1, 0, 0)], [0, 0])
        self.check(2, [(1, 0, 99)], [0, 99])
        self.check(3, [(2, 0, 14)], [0, 0, 14])

    def test_a_plain_rule_and_a_link(self):
        for order in itertools.permutations([(0, -1, 90), (1, 0, 14)]):
            self.check(2, list(order), [90, 104])
        for order in itertools.permutations([(0, -1, 90), (1, 0, 14), (1, -1, 104)]):
            self.check(2, list(order), [90, 104])
        for order in itertools.permutations([(0, -1, 90), (1, 0, 14), (1, -1, 105)]):
            self.check(2, list(order), [90, 105])

    def test_a_link_widens_its_on_and_never_its_base(self):
        self.check(2, [(1, -1, 90), (1, 0, 14)], [0, 90])
        self.check(2, [(0, -1, 10), (1, -1, 90), (1, 0, 14)], [10, 90])

    def test_a_plain_rule_of_the_last_member_is_not_its_base(self):
        self.check(2, [(0, -1, 5), (1, -1, 30)], [5, 30])
        self.check(2, [(1, -1, 30), (0, -1, 5)], [5, 30])

    def test_links_in_a_row_listed_in_any_order(self):
        row = [(0, -1, 20), (1, 0, 3), (2, 1, 0), (3, 2, 5), (4, 3, 1)]
        for order in itertools.permutations(row):
            self.check(5, list(order), [20, 23, 23, 28, 29])
        for order in itertools.permutations(row[1:]):
            self.check(5, list(order), [0, 3, 3, 8, 9])

    def test_the_longest_row_in_several_orders(self):
        for rules in (ROW, ROW[::-1], ROW[::2] + ROW[1::2], ROW[1::2] + ROW[::2], ROW[6:] + ROW[:6]):
            self.check(12, rules, ROW_WIDTHS)
        level = [(0, -1, 7)] + [(place + 1, place, 0) for place in range(11)]
        self.check(12, level[::-1], [7] * 12)

    def test_the_widest_that_can_be(self):
        rules = [(0, -1, 99999)] + [(place + 1, place, 99) for place in range(11)]
        for order in (rules, rules[::-1]):
            self.check(12, order, [99999 + 99 * place for place in range(12)])

    def test_the_greatest_of_several_ways(self):
        rules = [(0, -1, 10), (1, 0, 5), (2, 0, 20), (3, 1, 30), (3, 2, 14), (3, -1, 44)]
        for order in itertools.permutations(rules):
            self.check(4, list(order), [10, 15, 30, 45])

    def test_two_rules_alike(self):
        self.check(1, [(0, -1, 9), (0, -1, 9)], [9])
        self.check(2, [(1, 0, 9), (1, 0, 9)], [0, 9])
        self.check(2, [(1, 0, 9), (0, -1, 4), (1, 0, 9), (0, -1, 4)], [4, 13])

    def test_a_link_on_itself_with_more_nought(self):
        self.check(1, [(0, 0, 0)], [0])
        self.check(1, [(0, 0, 0), (0, -1, 6)], [6])
        self.check(2, [(1, 1, 0), (1, 0, 2), (0, 0, 0), (0, -1, 6)], [6, 8])

    def test_links_that_lead_round_and_sum_to_nought(self):
        for size in range(1, 13):
            rules = round_of(size, [0] * size)
            self.check(size, rules, [0] * size)
            for place in range(size):
                self.check(size, rules + [(place, -1, 33)], [33] * size)
                self.check(size, [(place, -1, 33)] + rules[::-1], [33] * size)
        self.check(3, [(0, 1, 0), (1, 0, 0), (2, 1, 8), (0, -1, 4), (1, -1, 5)], [5, 5, 13])

    def test_twelve_members_and_twenty_four_rules(self):
        rest = [(place, -1, place) for place in range(11)] + [(11, 11, 0)]
        for rules in (ROW + rest, rest + ROW, (ROW + rest)[::-1]):
            self.assertEqual(len(rules), 24)
            self.check(12, rules, ROW_WIDTHS)
        twice = round_of(12, [0] * 12) + round_of(12, [0] * 12)[::-1]
        self.check(12, twice, [0] * 12)
        self.check(12, twice[:23] + [(5, -1, 70)], [70] * 12)
        self.check(12, twice[:23] + [(5, 6, 1)], None)

    def test_a_ring_of_one_link(self):
        for more in (1, 99):
            self.check(1, [(0, 0, more)], None)
            self.check(3, [(2, 2, more)], None)
            self.check(3, [(2, -1, 99999), (2, 2, more), (0, -1, 1)], None)

    def test_a_ring_wherever_its_one_more_above_nought_stands(self):
        for size in range(1, 13):
            for rules in one_above_nought(size):
                self.check(size, rules, None)

    def test_a_ring_in_which_only_some_members_are(self):
        for count, rules in ringed_lists():
            self.check(count, rules, None)

    def test_a_ring_that_grows_slowly_beside_wide_members(self):
        ring = round_of(6, [0, 0, 0, 1, 0, 0])
        self.check(12, [(place, -1, 99999) for place in range(12)] + ring, None)
        self.check(12, ring[::-1] + [(place + 1, place, 99) for place in range(6, 11)] + [(6, -1, 99999)], None)

    def test_two_rings(self):
        self.check(4, [(0, 1, 1), (1, 0, 0), (2, 3, 0), (3, 2, 1)], None)
        self.check(4, [(0, 1, 0), (1, 0, 0), (2, 3, 0), (3, 2, 1)], None)
        self.check(4, [(0, 1, 0), (1, 0, 0), (2, 3, 0), (3, 2, 0)], [0] * 4)

    def test_every_small_list_against_a_search_of_all_widths(self):
        for count, rules in small_lists():
            self.assertEqual(least_widths(count, rules), search_least(count, rules, SMALL_MOST), (count, rules))

    def test_bigger_lists_meet_all_rules_and_no_width_is_above_the_chain_that_forces_it(self):
        seen = {True: 0, False: 0}
        for count, rules in thrown_lists():
            answer = least_widths(count, rules)
            ringed = has_ring(rules)
            seen[ringed] += 1
            with self.subTest(count=count, rules=rules):
                if ringed:
                    self.assertIsNone(answer)
                else:
                    self.assertTrue(meets(answer, rules))
                    self.assertEqual(answer, chain_least(count, rules))
        self.assertGreater(min(seen.values()), 100)


class ListsTest(unittest.TestCase):
    def lists(self):
        yield 0, []
        yield 4, []
        yield 12, list(ROW)
        yield 3, round_of(3, [0, 1, 0])
        yield from itertools.islice(thrown_lists(), 60)

    def test_the_rules_stay_as_they_are(self):
        for count, rules in self.lists():
            ahead = list(rules)
            least_widths(count, rules)
            self.assertEqual(rules, ahead)
            self.assertEqual([type(rule) for rule in rules], [tuple] * len(rules))

    def test_a_told_list_that_is_changed_changes_no_later_answer(self):
        for count, rules in self.lists():
            first = least_widths(count, rules)
            if first is None:
                continue
            kept = list(first)
            first.append(-1)
            first[0] = 777777
            second = least_widths(count, rules)
            self.assertIsNot(second, first)
            self.assertEqual(second, kept)
            second.clear()
            self.assertEqual(least_widths(count, list(rules)), kept)

    def test_an_answer_does_not_hang_on_those_before_it(self):
        cases = list(self.lists())
        ahead = [least_widths(count, rules) for count, rules in cases]
        behind = [least_widths(count, rules) for count, rules in reversed(cases)]
        self.assertEqual(behind[::-1], ahead)

    def test_a_told_list_stays_when_the_rules_are_changed(self):
        rules = [(0, -1, 90), (1, 0, 14)]
        told = least_widths(2, rules)
        rules.append((1, -1, 500))
        self.assertEqual(told, [90, 104])
        self.assertEqual(least_widths(2, rules), [90, 500])


if __name__ == "__main__":
    unittest.main()
