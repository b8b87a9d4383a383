"""The least widths that meet all rules (points 4 and 5).

A rule is a tuple (on, base, more) of places and a number, as point 4 tells.
"""

# Stands in the place of a base where a rule is a plain one.
NO_BASE = -1


def is_link(rule):
    return rule[1] != NO_BASE


def asked_width(rule, widths):
    if is_link(rule):
        return widths[rule[1]] + rule[2]
    return rule[2]


def widened(rules, widths):
    wider = list(widths)
    for rule in rules:
        wider[rule[0]] = max(wider[rule[0]], asked_width(rule, wider))
    return wider


# Widths grow from 0 only as far as a rule forces them, so where they come to rest they are the least.
# Without a ring no width takes more than count rules to force, each round settles one rule more of each,
# and the last round sees that nothing grows; what still grows then grows for ever.
def least_widths(count, rules):
    widths = [0] * count
    for spent in range(count + 1):
        wider = widened(rules, widths)
        if wider == widths:
            return widths
        widths = wider
    return None
