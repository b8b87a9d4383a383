"""Points 4, 5 and 7: the chain of a member; with them point 1 for its lists."""

import itertools
import unittest

from cases import (
    chain_least, is_link, round_of, search_chains, small_lists, thrown_lists, tied_lists, walk_chains, without_ring,
)
from stairgauge.chains import chain_of
from stairgauge.least import least_widths

# A plain rule and eleven links in a row, from member 0 to member 11.
ROW = [(0, -1, 90)] + [(place + 1, place, place) for place in range(11)]


def shuffled(rules, order):
    """The rules in another turn, and at which place each of them now is."""
    return [rules[place] for place in order], {place: spot for spot, place in enumerate(order)}


class ChainsTest(unittest.TestCase):
    def check_words(self, rules, member, width, chain):
        """Each word of point 7 but for which of several chains it is."""
        self.assertIs(type(chain), list)
        if width == 0:
            self.assertEqual(chain, [])
            return
        self.assertGreaterEqual(len(chain), 1)
        for place in chain:
            self.assertIs(type(place), int)
            self.assertIn(place, range(len(rules)))
        for ahead, place in zip(chain, chain[1:]):
            self.assertTrue(is_link(rules[place]))
            self.assertEqual(rules[place][1], rules[ahead][0])
        self.assertEqual(rules[chain[-1]][0], member)
        self.assertEqual(sum(rules[place][2] for place in chain), width)
        self.assertLessEqual(len(chain), 12)

    def check(self, count, rules, member, told):
        with self.subTest(count=count, rules=rules, member=member):
            chain = chain_of(count, rules, member)
            self.assertEqual(chain, told)
            self.check_words(rules, member, least_widths(count, rules)[member], chain)

    def test_the_check_itself_refuses_what_is_no_chain(self):
        rules = [(0, -1, 4), (1, 0, 3), (2, 1, 0), (1, -1, 3), (1, 1, 0), (2, 0, 7)]
        for member, width, chain in ((1, 7, [0, 1]), (2, 7, [0, 1, 2]), (2, 7, [5]), (1, 7, [0, 1, 4]), (1, 0, [])):
            self.check_words(rules, member, width, chain)
        for member, width, chain in (
            (1, 7, []), (1, 7, [0]), (1, 7, [1, 0]), (1, 7, [0, 3]), (2, 7, [0, 1]), (1, 7, [0, -5]), (1, 7, [0, 6]),
            (1, 8, [0, 1]), (1, 7, (0, 1)), (2, 7, [0, 2, 1]), (2, 7, [1, 0, 2]), (1, 0, [1]), (2, 7, [0, 1, True]),
        ):
            with self.subTest(chain=chain), self.assertRaises(AssertionError):
                self.check_words(rules, member, width, chain)

    def test_a_width_of_nought_has_no_chain(self):
        for count in range(1, 13):
            for member in range(count):
                self.check(count, [], member, [])
        self.check(2, [(1, -1, 50)], 0, [])

    def test_rules_with_more_nought_that_lead_to_a_width_of_nought(self):
        self.check(1, [(0, -1, 0)], 0, [])
        self.check(1, [(0, 0, 0), (0, -1, 0)], 0, [])
        self.check(2, [(0, -1, 0), (1, 0, 0)], 1, [])
        self.check(2, [(1, 0, 0)], 1, [])
        for size in range(1, 13):
            for member in range(size):
                self.check(size, round_of(size, [0] * size), member, [])
        # Members behind the one asked for are wide, and so is one beside it.
        self.check(3, [(1, 0, 0), (2, 1, 9), (1, -1, 0)], 1, [])

    def test_a_chain_of_one_plain_rule(self):
        for more in (1, 90, 99999):
            self.check(1, [(0, -1, more)], 0, [0])
            self.check(2, [(1, -1, 1), (0, -1, more)], 0, [1])
        self.check(2, [(0, -1, 4), (0, -1, 9), (0, -1, 7)], 0, [1])
        self.check(2, [(0, -1, 4), (1, 0, 3), (1, -1, 8)], 1, [2])
        # The base of a plain rule is no place: a rule on the last member does not stand before it.
        self.check(2, [(1, -1, 3), (0, -1, 3)], 0, [1])
        self.check(2, [(1, -1, 3), (0, -1, 6)], 0, [1])

    def test_a_chain_whose_first_rule_is_a_link(self):
        for more in (1, 14, 99):
            self.check(2, [(1, 0, more)], 1, [0])
            self.check(2, [(0, 1, more)], 0, [0])
        self.check(3, [(2, 1, 4), (1, 0, 9)], 2, [1, 0])
        self.check(3, [(2, 1, 4), (1, 0, 9), (0, -1, 0)], 2, [1, 0])

    def test_a_first_link_counts_its_base_as_nought_wide(self):
        # Member 0 is 5 wide, so the link alone sums to too little.
        self.check(2, [(1, 0, 3), (0, -1, 5)], 1, [1, 0])
        self.check(3, [(1, 0, 3), (2, 1, 3), (0, -1, 5)], 2, [2, 0, 1])
        # A link whose more is the width of its on's neighbour, not of its on.
        self.check(3, [(1, 0, 5), (0, -1, 5), (2, 1, 5)], 2, [1, 0, 2])
        self.check(3, [(1, 0, 5), (0, -1, 5), (2, 1, 5)], 1, [1, 0])

    def test_a_plain_rule_and_a_link(self):
        self.check(2, [(0, -1, 90), (1, 0, 14)], 1, [0, 1])
        self.check(2, [(1, 0, 14), (0, -1, 90)], 1, [1, 0])
        self.check(2, [(1, 0, 14), (0, -1, 90)], 0, [1])

    def test_a_chain_of_twelve_rules(self):
        for member in range(12):
            self.check(12, ROW, member, list(range(member + 1)))
        for order in (range(11, -1, -1), (3, 1, 4, 0, 5, 9, 2, 6, 8, 7, 11, 10)):
            rules, spots = shuffled(ROW, list(order))
            for member in range(12):
                self.check(12, rules, member, [spots[place] for place in range(member + 1)])
        level = [(0, -1, 7)] + [(place + 1, place, 0) for place in range(11)]
        self.check(12, level, 11, list(range(12)))
        # From a link on, without a plain rule.
        self.check(12, [(place + 1, place, 9) for place in range(11)], 11, list(range(11)))

    def test_twelve_members_and_twenty_four_rules(self):
        rest = [(place, -1, place) for place in range(11)] + [(11, 11, 0)]
        self.check(12, ROW + rest, 11, list(range(12)))
        self.check(12, rest + ROW, 11, list(range(12, 24)))
        twice = ROW + ROW
        self.check(12, twice, 11, list(range(12)))
        self.check(12, twice[::-1], 11, list(range(11, -1, -1)))

    def test_the_fewest_rules_also_where_a_longer_chain_has_lower_places(self):
        self.check(2, [(0, -1, 90), (1, 0, 14), (1, -1, 104)], 1, [2])
        self.check(2, [(1, -1, 104), (0, -1, 90), (1, 0, 14)], 1, [0])
        self.check(3, [(0, -1, 5), (1, 0, 2), (2, 1, 3), (2, 0, 5)], 2, [0, 3])
        self.check(4, [(0, -1, 5), (1, 0, 2), (2, 1, 0), (3, 2, 3), (3, 2, 3), (1, -1, 7)], 3, [5, 2, 3])
        # A first link of the width, against a plain rule of 0 ahead of it.
        self.check(2, [(0, -1, 0), (1, 0, 6)], 1, [1])
        self.check(3, [(0, -1, 0), (1, 0, 0), (2, 1, 6)], 2, [2])

    def test_a_longer_chain_that_begins_lower_near_the_end_or_the_beginning(self):
        rules = [(0, -1, 5), (1, 0, 0), (3, 1, 0), (2, -1, 5), (3, 2, 0)]
        self.check(4, rules, 3, [3, 4])
        rules = [(3, 1, 0), (1, 0, 0), (0, -1, 5), (3, 2, 0), (2, -1, 5)]
        self.check(4, rules, 3, [4, 3])

    def test_the_first_by_turn_from_the_beginning_and_not_from_the_end(self):
        # [0, 3] and [1, 2] both sum to 9: from the beginning [0, 3] is first, from the end [1, 2] is.
        self.check(3, [(0, -1, 4), (1, -1, 4), (2, 1, 5), (2, 0, 5)], 2, [0, 3])
        self.check(3, [(1, -1, 4), (0, -1, 4), (2, 0, 5), (2, 1, 5)], 2, [0, 3])
        self.check(3, [(2, 1, 5), (2, 0, 5), (0, -1, 4), (1, -1, 4)], 2, [2, 1])
        # Over three rules, alike at the beginning.
        rules = [(0, -1, 2), (1, 0, 1), (2, 0, 1), (3, 2, 1), (3, 1, 1)]
        self.check(4, rules, 3, [0, 1, 4])
        rules = [(3, 2, 1), (3, 1, 1), (0, -1, 2), (1, 0, 1), (2, 0, 1)]
        self.check(4, rules, 3, [2, 3, 1])

    def test_not_first_by_a_chain_s_lowest_place_or_its_sum_of_places(self):
        # [1, 5] holds against [2, 0], which has a lower place at its end, and against [3, 4], which has too.
        rules = [(3, 1, 5), (0, -1, 4), (1, -1, 4), (2, -1, 4), (3, 2, 5), (3, 0, 5)]
        self.check(4, rules, 3, [1, 5])

    def test_a_first_place_that_leads_nowhere_near_is_not_taken(self):
        # The rule at 0 is as wide as it asks for, but its links are one too many; the one at 1 is not on the way.
        rules = [(0, -1, 8), (4, -1, 8), (1, 0, 0), (2, 1, 0), (3, -1, 8), (2, 3, 0)]
        self.check(5, rules, 2, [4, 5])
        # A lower link from the same member leads away, or takes longer.
        rules = [(0, -1, 8), (1, 0, 0), (4, 0, 0), (3, 1, 0), (2, 3, 0), (3, 0, 0)]
        self.check(5, rules, 2, [0, 5, 4])

    def test_a_turn_of_a_plain_rule_and_a_first_link(self):
        self.check(2, [(1, -1, 6), (1, 0, 6)], 1, [0])
        self.check(2, [(1, 0, 6), (1, -1, 6)], 1, [0])
        self.check(3, [(2, 1, 3), (1, 0, 6), (1, -1, 6)], 2, [1, 0])

    def test_two_rules_alike(self):
        self.check(1, [(0, -1, 9), (0, -1, 9)], 0, [0])
        self.check(2, [(1, 0, 9), (1, 0, 9)], 1, [0])
        self.check(2, [(1, 0, 9), (0, -1, 4), (1, 0, 9), (0, -1, 4)], 1, [1, 0])
        self.check(3, [(2, 1, 1), (1, 0, 9), (2, 1, 1), (1, 0, 9), (0, -1, 4), (0, -1, 4)], 2, [4, 1, 0])

    def test_links_that_lead_round_and_sum_to_nought(self):
        for size in range(1, 13):
            rules = round_of(size, [0] * size) + [(0, -1, 33)]
            for member in range(size):
                self.check(size, rules, member, [size] + list(range(member)))
            backward = [(0, -1, 33)] + round_of(size, [0] * size)[::-1]
            for member in range(size):
                self.check(size, backward, member, [0] + [size - place for place in range(member)])
        self.check(1, [(0, 0, 0), (0, -1, 6)], 0, [1])
        self.check(3, [(0, 1, 0), (1, 0, 0), (2, 1, 8), (0, -1, 4), (1, -1, 5)], 2, [4, 2])
        self.check(3, [(0, 1, 0), (1, 0, 0), (2, 1, 8), (0, -1, 5), (1, -1, 5)], 0, [3])
        # A round at the chain's end, and one that a chain could go round before it goes on.
        self.check(3, [(1, 0, 0), (0, 1, 0), (0, -1, 5), (2, 1, 0), (1, 2, 0)], 2, [2, 0, 3])

    def test_the_widest_that_can_be(self):
        rules = [(0, -1, 99999)] + [(place + 1, place, 99) for place in range(11)]
        self.check(12, rules, 11, list(range(12)))

    def test_listed_in_any_turn(self):
        # One chain alone sums to 45, so its rules come in the same row wherever they stand.
        row = [(0, -1, 10), (1, 0, 5), (3, 1, 30), (2, 0, 20), (3, 2, 14), (3, -1, 44)]
        for order in itertools.permutations(range(6)):
            rules, spots = shuffled(row, list(order))
            self.check(4, rules, 3, [spots[0], spots[1], spots[2]])

    def test_every_turn_of_rules_with_several_chains(self):
        rules = [(0, -1, 2), (1, -1, 2), (2, 0, 1), (2, 1, 1), (2, 1, 1), (0, 1, 0)]
        for order in itertools.permutations(rules):
            self.check(3, list(order), 2, search_chains(list(order), 2, 3, 3)[0])

    def test_every_small_list_against_a_search_of_all_chains(self):
        for count, rules in without_ring(small_lists()):
            widths = least_widths(count, rules)
            for member in range(count):
                told = [] if widths[member] == 0 else search_chains(rules, member, widths[member], 4)[0]
                self.assertEqual(chain_of(count, rules, member), told, (count, rules, member))

    def test_lists_with_many_ties_against_a_search_of_all_chains(self):
        tied = 0
        for count, rules in tied_lists():
            widths = chain_least(count, rules)
            for member in range(count):
                found = [[]] if widths[member] == 0 else search_chains(rules, member, widths[member], count)
                chain = chain_of(count, rules, member)
                self.assertEqual(chain, found[0], (count, rules, member))
                self.check_words(rules, member, widths[member], chain)
                # Here another one would be told if chains were compared from their end.
                tied += chain != min(found, key=lambda other: other[::-1])
        self.assertGreater(tied, 50)

    def test_bigger_lists_against_all_chains_that_come_to_no_member_twice(self):
        lengths = {}
        for count, rules in without_ring(thrown_lists()):
            best = self.best_chains(count, rules)
            for member in range(count):
                chain = chain_of(count, rules, member)
                self.assertEqual(chain, best[member], (count, rules, member))
                lengths[len(chain)] = lengths.get(len(chain), 0) + 1
        self.assertGreater(sum(lengths[length] for length in lengths if length >= 4), 50)

    def best_chains(self, count, rules):
        widths = chain_least(count, rules)
        best = [None] * count
        for place, (on, base, more) in enumerate(rules):
            for chain in walk_chains(rules, [place], [on]):
                end = rules[chain[-1]][0]
                if sum(rules[part][2] for part in chain) == widths[end]:
                    if best[end] is None or (len(chain), chain) < (len(best[end]), best[end]):
                        best[end] = chain
        return [[] if width == 0 else chain for width, chain in zip(widths, best)]


class ListsTest(unittest.TestCase):
    def lists(self):
        yield 4, []
        yield 12, list(ROW)
        yield 3, round_of(3, [0, 0, 0]) + [(1, -1, 7)]
        yield from itertools.islice(tied_lists(), 40)
        yield from without_ring(itertools.islice(thrown_lists(), 60))

    def test_the_rules_stay_as_they_are(self):
        for count, rules in self.lists():
            ahead = list(rules)
            for member in range(count):
                chain_of(count, rules, member)
                self.assertEqual(rules, ahead)
            self.assertEqual([type(rule) for rule in rules], [tuple] * len(rules))

    def test_a_told_list_that_is_changed_changes_no_later_answer(self):
        for count, rules in self.lists():
            for member in range(count):
                first = chain_of(count, rules, member)
                kept = list(first)
                first.append(-1)
                first[0] = 777
                second = chain_of(count, rules, member)
                self.assertIsNot(second, first)
                self.assertEqual(second, kept)
                second.append(5)
                self.assertEqual(chain_of(count, list(rules), member), kept)

    def test_an_answer_does_not_hang_on_those_before_it(self):
        cases = [(count, rules, member) for count, rules in self.lists() for member in range(count)]
        ahead = [chain_of(*case) for case in cases]
        behind = [chain_of(*case) for case in reversed(cases)]
        self.assertEqual(behind[::-1], ahead)

    def test_a_told_list_stays_when_the_rules_are_changed(self):
        rules = [(0, -1, 90), (1, 0, 14)]
        told = chain_of(2, rules, 1)
        rules.append((1, -1, 500))
        self.assertEqual(told, [0, 1])
        self.assertEqual(chain_of(2, rules, 1), [2])


if __name__ == "__main__":
    unittest.main()
