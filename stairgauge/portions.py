"""Portions: the width that a count of people asks (point 3)."""

from stairgauge.bounds import EACH, OVER, PEOPLE, PORTION_MOST, inside
from stairgauge.errors import BadNumber, TooMuch


def portion(people, each, over):
    if not (inside(people, PEOPLE) and inside(each, EACH) and inside(over, OVER)):
        raise BadNumber("a number of the portion is outside its range")
    # One less than over, added ahead of the division, turns its rounding down into rounding up.
    width = (people * each + over - 1) // over
    if width > PORTION_MOST:
        raise TooMuch("the portion is too much")
    return width
