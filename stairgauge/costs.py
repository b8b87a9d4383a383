"""What a rule costs: how much wider it makes all members together (points 5 and 10)."""

from stairgauge.least import least_widths


def cost_of(count, rules, place):
    others = rules[:place] + rules[place + 1:]
    return sum(least_widths(count, rules)) - sum(least_widths(count, others))
