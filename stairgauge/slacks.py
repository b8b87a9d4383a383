"""Greatest widths, and how much wider a member can be made (points 8 and 9)."""

from stairgauge.least import NO_BASE, least_widths


def above(width, top):
    return top is not None and width > top


def first_wide(widths, tops):
    for place, width in enumerate(widths):
        if above(width, tops[place]):
            return place
    return None


# How far a width is above its greatest width; 0 where it is not.
def excess(width, top):
    return width - top if above(width, top) else 0


# The member is made wider than every greatest width. Whatever is above its greatest width then grows with it
# centimetre by centimetre, so the worst excess tells how much must be given back, and where the stop is.
def slack_of(count, rules, tops, member):
    least = least_widths(count, rules)
    growth = max([top for top in tops if top is not None], default=0) + 1
    widths = least_widths(count, rules + [(member, NO_BASE, least[member] + growth)])
    excesses = [excess(width, top) for width, top in zip(widths, tops)]
    worst = max(excesses)
    if worst == 0:
        return None
    return (growth - worst, excesses.index(worst))
