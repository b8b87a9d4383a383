"""The ranges and counts beyond which something is refused, by the document's points.

A range is a tuple of its least and its greatest number. What a point bounds without
a refusal (the length of a text, the count of rows) is not here: nothing asks for it.
"""

# Point 2: how many signs a name has.
NAME_SIGNS = (1, 8)

# Point 3: the three numbers of a portion, and the greatest portion.
PEOPLE = (0, 999)
EACH = (1, 999)
OVER = (1, 999)
PORTION_MOST = 99999

# Point 11: how many stand at a time.
MEMBERS_MOST = 12
DEMANDS_MOST = 24

# Point 13: how much wider than its base a link may ask a member to be.
LINK_MORE = (0, 99)

# Point 14: a greatest width.
TOP_WIDTH = (0, 99999)

# Point 16: how many deeds that were not taken back are kept.
DEEDS_MOST = 150

# Point 25: how many signs a number in a row has.
NUMBER_SIGNS = (1, 6)


def inside(number, span):
    return span[0] <= number <= span[1]
