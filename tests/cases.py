"""What several tests share.

For rules by places: point 4 read word by word, plain searches, and lists of rules. For the house: points 11 to 18
read word by word, all that a house tells, and days of deeds.
"""

import itertools
import re

from stairgauge.errors import GaugeError
from stairgauge.house import House
from stairgauge.least import least_widths

MEMBERS_MOST = 12
RULES_MOST = 24


def is_link(rule):
    return rule[1] >= 0


def meets(widths, rules):
    """Whether the widths meet all rules, by the words of point 4."""
    if any(width < 0 for width in widths):
        return False
    for on, base, more in rules:
        least = more if base == -1 else widths[base] + more
        if widths[on] < least:
            return False
    return True


def search_least(count, rules, most):
    """The least widths among all widths up to most, or None: right where none of them is above most."""
    found = [w for w in itertools.product(range(most + 1), repeat=count) if meets(w, rules)]
    if not found:
        return None
    least = [min(w[place] for w in found) for place in range(count)]
    assert tuple(least) in found, "point 5 would promise what can't be"
    return least


def walk_chains(rules, chain, seen):
    """The chain and every longer one that begins with it and comes to no member twice."""
    yield chain
    for place, (on, base, more) in enumerate(rules):
        if base == rules[chain[-1]][0] and on not in seen:
            yield from walk_chains(rules, chain + [place], seen + [on])


def chain_least(count, rules):
    """The least widths where there is no ring: at each member the greatest sum of a chain that leads to it."""
    least = [0] * count
    for place, (on, base, more) in enumerate(rules):
        if base == on:
            continue
        for chain in walk_chains(rules, [place], [on] if base == -1 else [base, on]):
            end = rules[chain[-1]][0]
            least[end] = max(least[end], sum(rules[part][2] for part in chain))
    return least


def has_ring(rules):
    """Whether any links make a ring, by walking round from every link."""
    for place, (on, base, more) in enumerate(rules):
        if base == -1:
            continue
        for chain in walk_chains(rules, [place], [on]):
            if rules[chain[-1]][0] == base and sum(rules[part][2] for part in chain) > 0:
                return True
    return False


def small_lists():
    """Every list of up to 3 rules over up to 3 members, of a few rules each; their least widths are 4 at most."""
    yield 0, []
    for count, plains in ((1, (0, 1, 2)), (2, (0, 2)), (3, (2,))):
        places = range(count)
        choice = [(on, -1, more) for on in places for more in plains]
        choice += [(on, base, more) for on in places for base in places for more in (0, 1)]
        for length in range(4):
            for rules in itertools.product(choice, repeat=length):
                yield count, list(rules)


SMALL_MOST = 4


class Dice:
    """Numbers that look thrown but are the same in every run."""

    def __init__(self, seed):
        self.state = seed

    def throw(self, sides):
        self.state = (self.state * 6364136223846793005 + 1442695040888963407) % 2 ** 64
        return (self.state >> 33) % sides


def thrown_rule(dice, count, mores):
    on = dice.throw(count)
    if dice.throw(4) == 0:
        return (on, -1, (0, 1, 7, 90, 99999)[dice.throw(5)])
    return (on, dice.throw(count), mores[dice.throw(len(mores))])


def uphill(rule):
    """The rule with its link, if it is one, turned to lead from a lower place to a higher one."""
    on, base, more = rule
    if base == -1:
        return rule
    return (max(on, base), min(on, base), more if on != base else 0)


def thrown_lists():
    """Bigger lists: some with rings, some without, some with links that lead round and sum to 0."""
    dice = Dice(5)
    for turn in range(600):
        count = 1 + dice.throw(MEMBERS_MOST)
        length = dice.throw(RULES_MOST + 1)
        mores = ((0,), (0, 0, 0, 0, 0, 1), (0, 1, 2, 99), (1, 50, 99))[turn % 4]
        rules = [thrown_rule(dice, count, mores) for part in range(length)]
        if turn % 8 >= 4:
            rules = [uphill(rule) for rule in rules]
        yield count, rules


def round_of(size, mores):
    """Links 0 to 1, 1 to 2, and so on, the last back to 0, with these mores in turn."""
    return [((place + 1) % size, place, mores[place]) for place in range(size)]


def one_above_nought(size):
    """Rounds of this many links, each with its one more above 0 at another spot of the list, in two orders."""
    for spot in range(size):
        rules = round_of(size, [1 if place == spot else 0 for place in range(size)])
        yield rules
        yield rules[::-1]


def ringed_lists():
    """Lists with a ring in which only some of the members are."""
    for size in range(1, 5):
        for rules in one_above_nought(size):
            yield size + 3, [(size, -1, 40), (size + 1, size, 9)] + rules
            # A member ahead of the ring, and one behind it.
            yield size + 3, rules + [(0, size, 7), (size + 1, 0, 3), (size, -1, 99999)]
            yield size + 3, [(size + 2, size + 1, 0), (size + 1, size + 2, 0)] + rules + [(0, -1, 5)]


def longer_chains(rules, chains):
    """Each of these chains with each rule behind it that may stand there by point 7, in the order of their places."""
    return [
        chain + [place]
        for chain in chains
        for place, (on, base, more) in enumerate(rules)
        if base >= 0 and base == rules[chain[-1]][0]
    ]


def search_chains(rules, member, width, most):
    """All chains of the member that sum to the width and have the fewest rules, up to most; the first by turn is first.

    Chains of one length are made in the order of their places from the beginning.
    """
    chains = [[place] for place in range(len(rules))]
    for length in range(1, most + 1):
        found = [
            chain for chain in chains
            if rules[chain[-1]][0] == member and sum(rules[place][2] for place in chain) == width
        ]
        if found:
            return found
        chains = longer_chains(rules, chains)
    return []


def tied_rule(dice, count, low):
    on = dice.throw(count)
    if dice.throw(3) == 0:
        return (on, -1, 1 + dice.throw(2))
    return (on, dice.throw(count), dice.throw(1 + low))


def tied_lists():
    """Lists without a ring in which many chains sum to the same: few members, many rules, low mores."""
    dice = Dice(7)
    for turn in range(600):
        count = 3 + dice.throw(3)
        rules = []
        for part in range(5 + dice.throw(9)):
            rule = tied_rule(dice, count, turn % 3)
            if not has_ring(rules + [rule]):
                rules.append(rule)
        yield count, rules
    for turn in range(200):
        yield 6, storey_list(dice)


def storey_list(dice):
    """Two members on each of three storeys, and links from storey to storey: every way up sums to the same."""
    rest = [(0, -1, 4), (1, -1, 4), (2, 0, 1), (2, 1, 1), (3, 0, 1), (3, 1, 1)]
    rest += [(on + 2, base + 2, more) for on, base, more in rest[2:]]
    rest += [rest[dice.throw(len(rest))], (5, 0, 2), (0, 1, 0)]
    rules = []
    while rest:
        rule = rest.pop(dice.throw(len(rest)))
        if dice.throw(5) > 0:
            rules.append(rule)
    return rules


def without_ring(lists):
    return [(count, rules) for count, rules in lists if not has_ring(rules)]


def search_wide(widths, tops):
    """Point 8 word by word."""
    places = [place for place in range(len(tops)) if tops[place] is not None and widths[place] > tops[place]]
    return min(places) if places else None


def search_slack(count, rules, tops, member):
    """Point 9 word by word: s is tried from 0 on, until it is past all greatest widths."""
    least = least_widths(count, rules)[member]
    for s in range(max([top for top in tops if top is not None], default=0) + 1):
        stop = search_wide(least_widths(count, rules + [(member, -1, least + s + 1)]), tops)
        if stop is not None:
            return (s, stop)
    return None


def ways_slack(count, rules, tops, member):
    """The same without trying each s: how far the greatest ways over links from the member to each other one reach."""
    ways = {member: 0}
    for place, (on, base, more) in enumerate(rules):
        if base == member and on != member:
            for chain in walk_chains(rules, [place], [member, on]):
                end = rules[chain[-1]][0]
                ways[end] = max(ways.get(end, 0), sum(rules[part][2] for part in chain))
    least = chain_least(count, rules)[member]
    rooms = [(tops[place] - least - ways[place], place) for place in ways if tops[place] is not None]
    return min(rooms) if rooms else None


def thrown_tops(dice, widths, most):
    """Greatest widths of which none is below its width: some None, some as wide as can be, some wider."""
    tops = []
    for width in widths:
        choice = dice.throw(4)
        tops.append(None if choice == 0 else width + (choice - 1) * dice.throw(most))
    return tops


DEEDS = ("add_member", "add_plain", "add_link", "set_top", "strike_member", "strike_demand", "strike_top")
# At which spots of a deed's words stand names of members that should stand.
MEMBER_SPOTS = {"add_plain": (1,), "add_link": (1, 2), "set_top": (0,), "strike_member": (0,), "strike_top": (0,)}
# At which spots stand numbers, and their ranges.
NUMBER_SPOTS = {
    "add_plain": ((2, 0, 999), (3, 1, 999), (4, 1, 999)), "add_link": ((3, 0, 99),), "set_top": ((1, 0, 99999),),
}


def rounded_up(people, each, over):
    return -((-people * each) // over)


def replay(deeds):
    """What stands behind these deeds: members, demands as point 18 tells them, and a dict of greatest widths."""
    members, demands, tops = [], [], {}
    for deed, words in deeds:
        if deed == "add_member":
            members.append(words[0])
        elif deed == "add_plain":
            demands.append((words[0], words[1], None, rounded_up(*words[2:])))
        elif deed == "add_link":
            demands.append(words)
        elif deed == "set_top":
            tops[words[0]] = words[1]
        elif deed == "strike_member":
            members.remove(words[0])
            tops.pop(words[0], None)
        elif deed == "strike_demand":
            demands = [demand for demand in demands if demand[0] != words[0]]
        else:
            del tops[words[0]]
    return members, demands, tops


def due_refusals(deeds, deed, words):
    """All refusals of point 17 that are due for a deed behind these deeds, in the order of the point."""
    members, demands, tops = replay(deeds)
    names = [demand[0] for demand in demands]
    brings_demand = deed in ("add_plain", "add_link")
    bad_number = any(not least <= words[spot] <= most for spot, least, most in NUMBER_SPOTS.get(deed, ()))
    due = {
        "Unknown": any(words[spot] not in members for spot in MEMBER_SPOTS.get(deed, ()))
        or (deed == "strike_demand" and words[0] not in names)
        or (deed == "strike_top" and words[0] not in tops),
        "InUse": (deed == "add_member" and words[0] in members)
        or (brings_demand and words[0] in names)
        or (deed == "set_top" and words[0] in tops)
        or (deed == "strike_member" and any(words[0] in demand[1:3] for demand in demands)),
        "BadName": deed.startswith("add_") and not re.fullmatch("[a-z]{1,8}", words[0]),
        "BadNumber": bad_number,
        "TooMuch": deed == "add_plain" and not bad_number and rounded_up(*words[2:]) > 99999,
        "Full": (deed == "add_member" and len(members) == 12)
        or (brings_demand and len(demands) == 24)
        or len(deeds) == 150,
    }
    return [refusal for refusal in due if due[refusal]]


def do(house, deeds, deed, words):
    """The deed done in the house, and put behind the list of deeds."""
    answer = getattr(house, deed)(*words)
    deeds.append((deed, words))
    return answer


def made_by(deeds):
    house = House()
    for deed, words in deeds:
        getattr(house, deed)(*words)
    return house


def stands(house):
    return house.members(), house.demands(), house.tops()


def should_stand(deeds):
    """What stands should tell behind these deeds, by point 18."""
    members, demands, tops = replay(deeds)
    return members, demands, [(member, tops[member]) for member in members if member in tops]


def asked(question, *words):
    """The answer, or the name of the refusal's class."""
    try:
        return question(*words)
    except GaugeError as refusal:
        return type(refusal).__name__


def all_told(house):
    """All that a house tells, but for which ring, as that is not promised."""
    members = house.members() + ["nobody", ""]
    names = [demand[0] for demand in house.demands()] + ["nothing", ""]
    why = asked(house.why)
    return {
        "stands": stands(house),
        "widths": asked(house.widths),
        "why": why[0] if why is not None and why[0] == "ring" else why,
        "chains": [asked(house.chain, member) for member in members],
        "slacks": [asked(house.slack, member) for member in members],
        "costs": [asked(house.cost, name) for name in names],
    }


# Numbers of a portion, and with which of them a portion can be brought again.
PORTIONS = (
    (0, 1, 1), (1, 1, 2), (5, 1, 1), (60, 3, 2), (61, 3, 2), (10, 3, 4), (17, 3, 10), (40, 5, 2), (999, 999, 10),
    (123, 813, 1),
)
BY_PORTION = {rounded_up(*numbers): numbers for numbers in PORTIONS}


def made_anew(house):
    """A house made anew, to which what stands in the house was brought in the same turn."""
    anew = House()
    for member in house.members():
        anew.add_member(member)
    for name, member, base, number in house.demands():
        if base is None:
            anew.add_plain(name, member, *BY_PORTION[number])
        else:
            anew.add_link(name, member, base, number)
    for member, width in house.tops():
        anew.set_top(member, width)
    return anew


def rules_of(house):
    """Count, rules and greatest widths by places, read from what the house tells of what stands."""
    members, demands, tops = stands(house)
    rules = [
        (members.index(member), -1 if base is None else members.index(base), number)
        for name, member, base, number in demands
    ]
    return len(members), rules, [dict(tops).get(member) for member in members]


MEMBER_NAMES = ("door", "stair", "hall", "gate", "attic", "cellar", "porch", "ramp")
DEMAND_NAMES = ("a", "b", "c", "d", "e", "f", "g", "h", "door", "stair", "zzzzzzzz")
NO_NAMES = ("", "Door", "door ", "toolongname", "a1")


def pick(dice, choice):
    return choice[dice.throw(len(choice))]


def some_name(dice, standing, names):
    """Most often a name that stands, else another one, now and then what is no name."""
    turn = dice.throw(12)
    if turn == 0:
        return pick(dice, NO_NAMES)
    return pick(dice, standing) if standing and turn < 10 else pick(dice, names)


def new_name(dice, standing, names):
    turn = dice.throw(14)
    if turn == 0:
        return pick(dice, NO_NAMES)
    free = [name for name in names if name not in standing]
    return pick(dice, free) if free and turn < 12 else pick(dice, names)


def thrown_deed(dice, deeds):
    """A deed behind these deeds that is mostly a good one, sometimes a refused one."""
    members, demands, tops = replay(deeds)
    names = [demand[0] for demand in demands]
    kind = ("add_member",) * 4 + ("add_plain",) * 4 + ("add_link",) * 6 + ("set_top",) * 3
    kind += ("strike_member", "strike_demand", "strike_demand", "strike_top")
    deed = pick(dice, kind)
    if deed == "add_member":
        return deed, (new_name(dice, members, MEMBER_NAMES),)
    if deed == "strike_demand":
        return deed, (some_name(dice, names, DEMAND_NAMES),)
    member = some_name(dice, members, MEMBER_NAMES)
    if deed == "set_top":
        return deed, (member, pick(dice, (0, 60, 95, 110, 120, 99999, 99999, -1, 100000)))
    if deed == "add_plain":
        numbers = pick(dice, PORTIONS[:8] + PORTIONS + ((-1, 1, 1), (5, 0, 1), (5, 1, 1000), (999, 999, 1)))
        return deed, (new_name(dice, names, DEMAND_NAMES), member) + numbers
    if deed == "add_link":
        base = some_name(dice, members, MEMBER_NAMES)
        more = pick(dice, (0, 0, 0, 0, 1, 5, 14, 99, 100, -1))
        if base in members and member in members and members.index(base) > members.index(member) and more > 0:
            # Else nearly every house would soon have a ring.
            base, member = member, base
        return deed, (new_name(dice, names, DEMAND_NAMES), member, base, more)
    return deed, (member,)
