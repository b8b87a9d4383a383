"""The desk's rows, read into words and numbers (points 25 and 26)."""

from stairgauge.bounds import NUMBER_SIGNS, inside
from stairgauge.errors import BadRow

# Small letters stand for themselves, capital letters for any word or, as told below, for a number.
FORMS = (
    "member NAME",
    "plain NAME MEMBER PEOPLE EACH OVER",
    "link NAME MEMBER BASE MORE",
    "top MEMBER WIDTH",
    "strike member MEMBER",
    "strike demand DEMAND",
    "strike top MEMBER",
    "back",
    "widths",
    "chain MEMBER",
    "why",
    "slack MEMBER",
    "cost DEMAND",
)
NUMBERS = ("PEOPLE", "EACH", "OVER", "MORE", "WIDTH")


# Asked ahead of int, which would let blanks, a sign in front and underscores through.
def is_number(word):
    return inside(len(word), NUMBER_SIGNS) and all(["0" <= sign <= "9" for sign in word])


def fits(part, word):
    if part in NUMBERS:
        return is_number(word)
    return part.isupper() or part == word


def read_word(part, word):
    return int(word) if part in NUMBERS else word


def read_row(row):
    words = row.split(" ")
    for form in FORMS:
        parts = form.split(" ")
        if len(parts) == len(words) and all([fits(part, word) for part, word in zip(parts, words)]):
            return tuple([read_word(part, word) for part, word in zip(parts, words)])
    raise BadRow("the row has none of the forms")
