"""Which texts are names (point 2)."""

from stairgauge.bounds import NAME_SIGNS, inside


# Not islower: it lets figures and other signs through beside a letter.
def small_letter(sign):
    return "a" <= sign <= "z"


def good_name(text):
    return inside(len(text), NAME_SIGNS) and all([small_letter(sign) for sign in text])
