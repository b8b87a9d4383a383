"""The desk: rows of text in, an answer to each out (points 25, 27 and 28)."""

from stairgauge.errors import BadName, BadNumber, BadRow, Full, InUse, NothingBack, NoWidths, TooMuch, Unknown
from stairgauge.house import House
from stairgauge.rows import read_row


def strike(house, kind, name):
    if kind == "member":
        house.strike_member(name)
    elif kind == "demand":
        house.strike_demand(name)
    else:
        house.strike_top(name)


# Also for a taking back, which is answered like a deed.
def do_deed(house, words):
    if words[0] == "member":
        house.add_member(words[1])
    elif words[0] == "plain":
        house.add_plain(words[1], words[2], words[3], words[4], words[5])
    elif words[0] == "link":
        house.add_link(words[1], words[2], words[3], words[4])
    elif words[0] == "top":
        house.set_top(words[1], words[2])
    elif words[0] == "strike":
        strike(house, words[1], words[2])
    else:
        house.take_back()


def told_by(what, names):
    row = " ".join(names)
    return f"{what} by {row}"


def tell_widths(house):
    pairs = [f"{name}={width}" for name, width in zip(house.members(), house.widths())]
    return " ".join(pairs) if pairs else "none"


# The chain is asked for first: it refuses a member that doesn't stand.
def tell_chain(house, member):
    names = house.chain(member)
    width = house.widths()[house.members().index(member)]
    return "0" if width == 0 else told_by(width, names)


def tell_why(house):
    reason = house.why()
    if reason is None:
        return "fits"
    if reason[0] == "ring":
        return "ring " + " ".join(reason[1])
    return "wide " + told_by(reason[1], reason[2])


def tell_slack(house, member):
    found = house.slack(member)
    if found is None:
        return "no end"
    return told_by(found[0], [found[1]])


def answer_words(house, words):
    if words[0] == "widths":
        return tell_widths(house)
    if words[0] == "chain":
        return tell_chain(house, words[1])
    if words[0] == "why":
        return tell_why(house)
    if words[0] == "slack":
        return tell_slack(house, words[1])
    if words[0] == "cost":
        return str(house.cost(words[1]))
    do_deed(house, words)
    return "done"


def answer_row(house, row):
    try:
        return answer_words(house, read_row(row))
    except Unknown:
        return "refused: unknown"
    except InUse:
        return "refused: in use"
    except BadName:
        return "refused: bad name"
    except BadNumber:
        return "refused: bad number"
    except TooMuch:
        return "refused: too much"
    except Full:
        return "refused: full"
    except NothingBack:
        return "refused: nothing back"
    except NoWidths:
        return "refused: no widths"
    except BadRow:
        return "refused: bad row"


def answers(rows):
    house = House()
    texts = []
    for row in rows:
        texts.append(answer_row(house, row))
    return texts
