"""Points 8 and 9: widths above their greatest widths, and the slack of a member; with them point 1 for their lists."""

import itertools
import unittest

from cases import (
    Dice, chain_least, round_of, search_slack, search_wide, small_lists, thrown_lists, thrown_tops, tied_lists,
    ways_slack, without_ring,
)
from stairgauge.least import least_widths
from stairgauge.slacks import first_wide, slack_of


class FirstWideTest(unittest.TestCase):
    def check(self, widths, tops, told):
        with self.subTest(widths=widths, tops=tops):
            answer = first_wide(widths, tops)
            self.assertEqual(answer, told)
            self.assertIs(type(answer), type(told))
            self.assertEqual(search_wide(widths, tops), told)

    def test_no_members(self):
        self.check([], [], None)

    def test_no_greatest_widths(self):
        for count in range(1, 13):
            for width in (0, 1, 90, 99999, 999999):
                self.check([width] * count, [None] * count, None)

    def test_the_very_greatest_width_is_not_above_it_and_one_more_is(self):
        for top in (0, 1, 90, 99998, 99999):
            self.check([top], [top], None)
            self.check([top + 1], [top], 0)
            self.check([max(0, top - 1)], [top], None)
            self.check([5, top, 5], [None, top, None], None)
            self.check([5, top + 1, 5], [None, top, None], 1)

    def test_a_greatest_width_of_nought(self):
        self.check([0], [0], None)
        self.check([1], [0], 0)
        self.check([999999], [0], 0)
        self.check([0, 0, 3], [0, 0, 0], 2)

    def test_the_lowest_of_several_places(self):
        self.check([9, 9, 9], [5, 5, 5], 0)
        self.check([9, 9, 9], [9, 8, 0], 1)
        self.check([9, 9, 9], [None, None, 8], 2)
        self.check([9, 9, 9], [None, 8, 0], 1)
        # Neither the greatest excess nor the widest decides.
        self.check([10, 50, 999999], [20, 49, 0], 1)

    def test_each_place_of_twelve(self):
        for place in range(12):
            tops = [7] * 12
            self.check([7] * place + [8] * (12 - place), tops, place)
            self.check([7] * place + [8] + [7] * (11 - place), tops, place)
        self.check([7] * 12, [7] * 12, None)

    def test_the_widest_that_is_handed_in(self):
        self.check([999999] * 12, [99999] * 12, 0)
        self.check([99999] * 11 + [999999], [99999] * 12, 11)
        self.check([999999] * 11 + [99999], [None] * 11 + [99999], None)

    def test_all_of_a_few(self):
        for count in range(4):
            for widths in itertools.product((0, 1, 2), repeat=count):
                for tops in itertools.product((None, 0, 1), repeat=count):
                    self.check(list(widths), list(tops), search_wide(widths, tops))

    def test_the_lists_stay_as_they_are(self):
        for widths, tops in (([], []), ([9, 9], [None, 5]), ([0] * 12, [0] * 12)):
            kept = (list(widths), list(tops))
            first_wide(widths, tops)
            first_wide(widths, tops)
            self.assertEqual((widths, tops), kept)


class SlackTest(unittest.TestCase):
    def check(self, count, rules, tops, member, told):
        with self.subTest(count=count, rules=rules, tops=tops, member=member):
            answer = slack_of(count, rules, tops, member)
            self.assertEqual(answer, told)
            if told is not None:
                self.assertIs(type(answer), tuple)
                self.assertEqual([type(number) for number in answer], [int, int])

    def test_no_greatest_widths(self):
        for count in range(1, 13):
            for member in range(count):
                self.check(count, [], [None] * count, member, None)
        self.check(2, [(0, -1, 90), (1, 0, 14)], [None, None], 0, None)

    def test_no_end_where_the_greatest_widths_of_others_are_never_passed(self):
        self.check(2, [], [None, 5], 0, None)
        self.check(2, [], [None, 0], 0, None)
        self.check(2, [(0, -1, 90), (1, -1, 5)], [None, 5], 0, None)
        # A link leads from its base to its on, and not the other way.
        self.check(2, [(0, 1, 4)], [None, 0], 0, None)
        self.check(3, [(1, 0, 4), (1, 2, 4)], [None, None, 0], 0, None)
        self.check(3, [(1, 0, 4), (1, 2, 4)], [0, 9, 0], 1, (5, 1))
        self.check(12, [(place, -1, 9) for place in range(12)], [9] * 11 + [None], 11, None)

    def test_the_stop_is_the_member_itself(self):
        for top in (0, 1, 110, 99998, 99999):
            self.check(1, [], [top], 0, (top, 0))
            self.check(1, [(0, -1, top)], [top], 0, (0, 0))
            self.check(3, [], [None, top, None], 1, (top, 1))
        self.check(1, [(0, -1, 90)], [110], 0, (20, 0))
        self.check(2, [(0, -1, 90), (1, 0, 14)], [None, 110], 1, (6, 1))
        self.check(2, [(0, -1, 90), (1, 0, 14)], [95, 110], 0, (5, 0))

    def test_a_slack_of_nought(self):
        self.check(1, [], [0], 0, (0, 0))
        self.check(2, [(0, -1, 90), (1, 0, 14)], [None, 104], 0, (0, 1))
        self.check(2, [(0, -1, 90), (1, 0, 14)], [90, 104], 0, (0, 0))
        self.check(2, [(0, -1, 90), (1, 0, 14)], [90, 104], 1, (0, 1))
        self.check(2, [(0, 1, 0), (1, 0, 0)], [None, 0], 0, (0, 1))

    def test_the_stop_is_another_member_behind_one_link(self):
        self.check(2, [(0, -1, 90), (1, 0, 14)], [None, 110], 0, (6, 1))
        self.check(2, [(0, -1, 90), (1, 0, 14)], [97, 110], 0, (6, 1))
        self.check(2, [(1, -1, 90), (0, 1, 14)], [110, None], 1, (6, 0))
        self.check(2, [(1, 0, 0)], [None, 30], 0, (30, 1))
        self.check(2, [(1, 0, 99)], [None, 99999], 0, (99900, 1))

    def test_the_stop_is_another_member_behind_several_links(self):
        rules = [(0, -1, 10), (1, 0, 5), (2, 1, 0), (3, 2, 7)]
        self.check(4, rules, [None, None, None, 30], 0, (8, 3))
        self.check(4, rules, [None, None, None, 30], 1, (8, 3))
        self.check(4, rules, [None, None, 21, 30], 0, (6, 2))
        self.check(4, rules, [17, 40, 21, 30], 0, (6, 2))
        self.check(4, rules[::-1], [16, 21, 22, 29], 0, (6, 0))
        row = [(0, -1, 90)] + [(place + 1, place, 99) for place in range(11)]
        self.check(12, row, [None] * 11 + [99999], 0, (99999 - 90 - 11 * 99, 11))
        self.check(12, row[::-1], [None] * 11 + [99999], 5, (99999 - 90 - 11 * 99, 11))

    def test_the_greatest_of_several_ways_to_the_stop(self):
        rules = [(1, 0, 5), (2, 0, 9), (3, 1, 5), (3, 2, 0), (3, 0, 3)]
        self.check(4, rules, [None, None, None, 50], 0, (40, 3))
        self.check(4, rules, [None, None, None, 50], 2, (41, 3))
        self.check(4, rules, [None, None, 44, 50], 0, (35, 2))

    def test_of_several_that_are_passed_at_once_the_lowest_place(self):
        self.check(3, [(1, 0, 4), (2, 0, 4)], [None, 10, 10], 0, (6, 1))
        self.check(3, [(1, 0, 4), (2, 0, 7)], [None, 10, 13], 0, (6, 1))
        self.check(3, [(1, 0, 4), (2, 0, 7)], [6, 10, 13], 0, (6, 0))
        self.check(3, [(0, 2, 4), (1, 2, 7)], [10, 13, 6], 2, (6, 0))
        self.check(3, [(0, 2, 4), (1, 2, 7)], [11, 13, 6], 2, (6, 1))
        self.check(3, [(0, 2, 4), (1, 2, 7)], [11, 14, 6], 2, (6, 2))
        # Not the lowest of all that are ever passed.
        self.check(3, [(1, 0, 4), (2, 0, 7)], [None, 11, 13], 0, (6, 2))
        self.check(12, round_of(12, [0] * 12), [8] * 12, 7, (8, 0))
        self.check(12, round_of(12, [0] * 12), [None] * 4 + [8] * 8, 7, (8, 4))

    def test_a_member_that_another_rule_holds_wider_does_not_grow_at_first(self):
        self.check(2, [(0, -1, 10), (1, 0, 5), (1, -1, 50)], [None, 60], 0, (45, 1))
        self.check(2, [(0, -1, 10), (1, 0, 5), (1, -1, 50)], [None, 50], 0, (35, 1))
        self.check(2, [(0, -1, 10), (1, 0, 5), (1, -1, 50)], [30, 50], 0, (20, 0))
        self.check(3, [(0, -1, 10), (1, 0, 5), (1, -1, 50), (2, 1, 3)], [None, None, 53], 0, (35, 2))
        self.check(3, [(0, -1, 10), (1, 0, 5), (2, 1, 3), (2, -1, 99998)], [None, None, 99999], 0, (99981, 2))
        self.check(3, [(1, 0, 5), (1, 2, 5), (2, -1, 45)], [None, 52, 46], 0, (47, 1))

    def test_links_that_lead_round_and_sum_to_nought(self):
        self.check(1, [(0, 0, 0)], [9], 0, (9, 0))
        self.check(1, [(0, 0, 0)], [None], 0, None)
        self.check(3, [(0, 1, 0), (1, 0, 0), (2, 1, 8), (0, -1, 4)], [None, None, 20], 0, (8, 2))
        self.check(3, [(0, 1, 0), (1, 0, 0), (2, 1, 8), (0, -1, 4)], [None, 11, 20], 0, (7, 1))

    def test_the_others_are_no_wider_than_the_member_makes_them(self):
        # Member 1 is at its very greatest width, and no link leads to it from member 0.
        self.check(3, [(0, -1, 4), (1, -1, 9), (2, 0, 1)], [None, 9, 30], 0, (25, 2))

    def test_the_widest_that_can_be(self):
        rules = [(0, -1, 99999)] + [(place + 1, place, 99) for place in range(11)]
        self.check(12, rules, [None] * 12, 0, None)
        self.check(12, rules, [99999] + [None] * 11, 0, (0, 0))
        self.check(12, rules, [99999] + [None] * 11, 5, None)

    def test_twelve_members_and_twenty_four_rules(self):
        both_ways = round_of(12, [0] * 12) + [(base, on, 0) for on, base, more in round_of(12, [0] * 12)]
        for member in range(12):
            self.check(12, both_ways, [None] * 12, member, None)
            self.check(12, both_ways, [500 - place for place in range(12)], member, (489, 11))
            self.check(12, both_ways[:23] + [(3, -1, 400)], [500] * 12, member, (100, 0))

    def test_small_lists_against_a_plain_search(self):
        for number, (count, rules) in enumerate(without_ring(small_lists())):
            widths = least_widths(count, rules)
            dice = Dice(number)
            for member in range(count):
                tops = thrown_tops(dice, widths, 4)
                told = search_slack(count, rules, tops, member)
                self.assertEqual(slack_of(count, rules, tops, member), told, (count, rules, tops, member))

    def test_all_greatest_widths_of_a_few_lists_against_a_plain_search(self):
        for rules in (
            [], [(1, 0, 1)], [(1, 0, 1), (2, 1, 1)], [(1, 0, 0), (2, 0, 2), (2, -1, 1)], [(0, 1, 0), (1, 0, 0)],
        ):
            widths = least_widths(3, rules)
            for tops in itertools.product((None, 0, 1, 2, 3, 4), repeat=3):
                if first_wide(widths, list(tops)) is None:
                    for member in range(3):
                        told = search_slack(3, rules, list(tops), member)
                        self.check(3, rules, list(tops), member, told)

    def test_bigger_lists_against_a_plain_search(self):
        dice = Dice(11)
        seen = {"none": 0, "itself": 0, "another": 0}
        for count, rules in itertools.chain(without_ring(thrown_lists()), tied_lists()):
            widths = chain_least(count, rules)
            tops = thrown_tops(dice, widths, 30 if max(widths) < 500 else 99999)
            for member in range(count):
                answer = slack_of(count, rules, tops, member)
                self.assertEqual(answer, ways_slack(count, rules, tops, member), (count, rules, tops, member))
                if max(widths) < 500:
                    self.assertEqual(answer, search_slack(count, rules, tops, member), (count, rules, tops, member))
                seen["none" if answer is None else "itself" if answer[1] == member else "another"] += 1
        self.assertGreater(min(seen.values()), 200)


class ListsTest(unittest.TestCase):
    def lists(self):
        dice = Dice(3)
        yield 1, [], [None]
        yield 2, [(0, -1, 90), (1, 0, 14)], [None, 110]
        for count, rules in itertools.islice(tied_lists(), 40):
            yield count, rules, thrown_tops(dice, least_widths(count, rules), 9)

    def test_the_lists_stay_as_they_are(self):
        for count, rules, tops in self.lists():
            kept = (list(rules), list(tops))
            for member in range(count):
                slack_of(count, rules, tops, member)
                self.assertEqual((rules, tops), kept)
            self.assertEqual([type(rule) for rule in rules], [tuple] * len(rules))

    def test_an_answer_does_not_hang_on_those_before_it(self):
        cases = [(*case, member) for case in self.lists() for member in range(case[0])]
        ahead = [slack_of(*case) for case in cases]
        behind = [slack_of(*case) for case in reversed(cases)]
        self.assertEqual(behind[::-1], ahead)


if __name__ == "__main__":
    unittest.main()
