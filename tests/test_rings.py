"""Points 4 and 6: rings of links; with them point 1 for their lists."""

import itertools
import unittest

from cases import (
    SMALL_MOST, has_ring, is_link, one_above_nought, ringed_lists, round_of, search_least, small_lists, thrown_lists,
)
from stairgauge.least import least_widths
from stairgauge.rings import find_ring


class RingsTest(unittest.TestCase):
    def check_ring(self, rules, ring):
        """Each word of point 6."""
        self.assertIs(type(ring), list)
        self.assertGreaterEqual(len(ring), 1)
        for place in ring:
            self.assertIs(type(place), int)
            self.assertIn(place, range(len(rules)))
            self.assertTrue(is_link(rules[place]))
        for spot, place in enumerate(ring):
            # Spot 0 has the last one before it, so the ring closes.
            self.assertEqual(rules[place][1], rules[ring[spot - 1]][0])
        ons = [rules[place][0] for place in ring]
        self.assertEqual(len(ons), len(set(ons)))
        self.assertGreater(sum(rules[place][2] for place in ring), 0)

    def check_some(self, count, rules):
        with self.subTest(count=count, rules=rules):
            self.check_ring(rules, find_ring(count, rules))
            self.assertIsNone(least_widths(count, rules))

    def check_none(self, count, rules):
        with self.subTest(count=count, rules=rules):
            ring = find_ring(count, rules)
            self.assertEqual(ring, [])
            self.assertIs(type(ring), list)
            self.assertIsNotNone(least_widths(count, rules))

    def test_the_check_itself_refuses_what_is_no_ring(self):
        rules = [(1, 0, 1), (0, 1, 0), (0, -1, 5), (2, 2, 0), (1, 0, 0), (2, 1, 3)]
        for ring in ([0, 1], [1, 0]):
            self.check_ring(rules, ring)
        for ring in ([], [0], [2], [3], [4, 1], [0, 1, 0, 1], [0, 1, 4, 1], [0, 5], [0, -5], [0, 6], (0, 1)):
            with self.subTest(ring=ring), self.assertRaises(AssertionError):
                self.check_ring(rules, ring)

    def test_no_members_and_no_rules(self):
        self.check_none(0, [])

    def test_no_links(self):
        for count in range(1, 13):
            self.check_none(count, [])
            self.check_none(count, [(place, -1, 99999) for place in range(count)])
        # The base of a plain rule is no place: not that of the last member either.
        self.check_none(1, [(0, -1, 1)])
        self.check_none(2, [(1, -1, 5), (0, 1, 5), (1, -1, 7)])

    def test_links_that_do_not_lead_round(self):
        row = [(0, -1, 90)] + [(place + 1, place, 99) for place in range(11)]
        for rules in (row, row[::-1], row[1::2] + row[::2]):
            self.check_none(12, rules)
        self.check_none(4, [(1, 0, 5), (2, 0, 5), (3, 1, 5), (3, 2, 5), (3, 0, 5)])

    def test_links_that_lead_round_and_sum_to_nought(self):
        for size in range(1, 13):
            rules = round_of(size, [0] * size)
            self.check_none(size, rules)
            self.check_none(size, [(0, -1, 7)] + rules[::-1] + [(size - 1, -1, 99999)])
        # Mores above 0 that lead into a round, out of it, or beside it are not in it.
        self.check_none(4, [(0, 1, 0), (1, 0, 0), (2, 1, 50), (0, 3, 50)])
        self.check_none(4, [(0, 0, 0), (1, 0, 9), (1, 1, 0), (2, 1, 9), (2, 2, 0), (3, 2, 9)])

    def test_two_rules_alike(self):
        self.check_none(2, [(1, 0, 9), (1, 0, 9)])
        self.check_some(2, [(1, 0, 9), (1, 0, 9), (0, 1, 0), (0, 1, 0)])

    def test_a_ring_of_one_link(self):
        for more in (1, 2, 99):
            self.assertEqual(find_ring(1, [(0, 0, more)]), [0])
            self.check_some(1, [(0, 0, more)])
            self.assertEqual(find_ring(3, [(0, -1, 4), (1, 0, 2), (1, 1, 0), (2, 2, more)]), [3])
        self.check_none(1, [(0, 0, 0)])

    def test_a_ring_of_two_links(self):
        for rules in ([(0, 1, 1), (1, 0, 0)], [(0, 1, 0), (1, 0, 1)], [(0, 1, 99), (1, 0, 99)]):
            self.check_some(2, rules)
            self.assertEqual(sorted(find_ring(2, rules)), [0, 1])

    def test_a_ring_of_several_links_in_any_order(self):
        for order in itertools.permutations(round_of(4, [3, 0, 1, 0]) + [(0, -1, 8)]):
            self.check_some(4, list(order))
            self.assertEqual(len(find_ring(4, list(order))), 4)

    def test_a_ring_wherever_its_one_more_above_nought_stands(self):
        for size in range(1, 13):
            for rules in one_above_nought(size):
                self.check_some(size, rules)
                self.assertEqual(sorted(find_ring(size, rules)), list(range(size)))

    def test_a_ring_in_which_only_some_members_are(self):
        for count, rules in ringed_lists():
            self.check_some(count, rules)

    def test_of_links_side_by_side_only_one_makes_the_ring(self):
        for rules in ([(1, 0, 0), (1, 0, 1), (0, 1, 0)], [(0, 1, 0), (1, 0, 1), (1, 0, 0)]):
            self.check_some(2, rules)
            self.assertIn(1, find_ring(2, rules))
            self.assertEqual(len(find_ring(2, rules)), 2)

    def test_a_link_above_nought_that_is_in_no_ring_stands_ahead_of_one(self):
        rules = [(3, 0, 50), (0, 1, 0), (1, 0, 0), (1, 2, 99), (2, 2, 0), (4, 3, 2), (3, 4, 0)]
        self.check_some(5, rules)
        self.assertEqual(sorted(find_ring(5, rules)), [5, 6])

    def test_rounds_that_share_a_member(self):
        # The way that sums to more than 0 comes to member 0 twice if both rounds are walked.
        self.check_some(5, [(1, 0, 0), (0, 1, 0), (2, 0, 0), (3, 2, 1), (0, 3, 0)])
        self.check_some(5, [(1, 0, 0), (2, 1, 0), (0, 2, 0), (1, 2, 1), (3, 0, 0), (0, 3, 0)])
        self.check_none(5, [(1, 0, 0), (0, 1, 0), (2, 0, 0), (3, 2, 0), (0, 3, 0), (4, 3, 1)])

    def test_twelve_members_and_twenty_four_rules(self):
        both_ways = round_of(12, [0] * 12) + [(base, on, 0) for on, base, more in round_of(12, [0] * 12)]
        self.assertEqual(len(both_ways), 24)
        self.check_none(12, both_ways)
        for spot in range(24):
            on, base, more = both_ways[spot]
            self.check_some(12, both_ways[:spot] + [(on, base, 1)] + both_ways[spot + 1:])

    def test_every_small_list_against_a_search_of_all_widths(self):
        for count, rules in small_lists():
            ring = find_ring(count, rules)
            self.assertEqual(ring == [], search_least(count, rules, SMALL_MOST) is not None, (count, rules))
            if ring != []:
                self.check_ring(rules, ring)

    def test_a_ring_just_where_there_is_one_and_no_least_widths(self):
        for count, rules in thrown_lists():
            if has_ring(rules):
                self.check_some(count, rules)
            else:
                self.check_none(count, rules)


class ListsTest(unittest.TestCase):
    def lists(self):
        yield 0, []
        yield 3, [(1, 0, 4), (0, -1, 2)]
        yield 1, [(0, 0, 1)]
        yield 3, round_of(3, [0, 1, 0])
        yield from itertools.islice(thrown_lists(), 60)

    def test_the_rules_stay_as_they_are(self):
        for count, rules in self.lists():
            ahead = list(rules)
            find_ring(count, rules)
            self.assertEqual(rules, ahead)
            self.assertEqual([type(rule) for rule in rules], [tuple] * len(rules))

    def test_a_told_list_that_is_changed_changes_no_later_answer(self):
        for count, rules in self.lists():
            first = find_ring(count, rules)
            kept = list(first)
            first.append(-1)
            first[0] = 777
            second = find_ring(count, rules)
            self.assertIsNot(second, first)
            self.assertEqual(second, kept)
            second.append(5)
            self.assertEqual(find_ring(count, list(rules)), kept)

    def test_an_answer_does_not_hang_on_those_before_it(self):
        cases = list(self.lists())
        ahead = [find_ring(count, rules) for count, rules in cases]
        behind = [find_ring(count, rules) for count, rules in reversed(cases)]
        self.assertEqual(behind[::-1], ahead)


if __name__ == "__main__":
    unittest.main()
