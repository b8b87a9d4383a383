"""What several tests of rules by places share: point 4 read word by word, plain searches, and lists of rules."""

import itertools

MEMBERS_MOST = 12
RULES_MOST = 24


def is_link(rule):
    return rule[1] >= 0


def meets(widths, rules):
    """Whether the widths meet all rules, by the words of point 4."""
    if any(width < 0 for width in widths):
        return False
    for on, base, more in rules:
        least = more if base == -1 else widths[base] + more
        if widths[on] < least:
            return False
    return True


def search_least(count, rules, most):
    """The least widths among all widths up to most, or None: right where none of them is above most."""
    found = [w for w in itertools.product(range(most + 1), repeat=count) if meets(w, rules)]
    if not found:
        return None
    least = [min(w[place] for w in found) for place in range(count)]
    assert tuple(least) in found, "point 5 would promise what can't be"
    return least


def walk_chains(rules, chain, seen):
    """The chain and every longer one that begins with it and comes to no member twice."""
    yield chain
    for place, (on, base, more) in enumerate(rules):
        if base == rules[chain[-1]][0] and on not in seen:
            yield from walk_chains(rules, chain + [place], seen + [on])


def chain_least(count, rules):
    """The least widths where there is no ring: at each member the greatest sum of a chain that leads to it."""
    least = [0] * count
    for place, (on, base, more) in enumerate(rules):
        if base == on:
            continue
        for chain in walk_chains(rules, [place], [on] if base == -1 else [base, on]):
            end = rules[chain[-1]][0]
            least[end] = max(least[end], sum(rules[part][2] for part in chain))
    return least


def has_ring(rules):
    """Whether any links make a ring, by walking round from every link."""
    for place, (on, base, more) in enumerate(rules):
        if base == -1:
            continue
        for chain in walk_chains(rules, [place], [on]):
            if rules[chain[-1]][0] == base and sum(rules[part][2] for part in chain) > 0:
                return True
    return False


def small_lists():
    """Every list of up to 3 rules over up to 3 members, of a few rules each; their least widths are 4 at most."""
    yield 0, []
    for count, plains in ((1, (0, 1, 2)), (2, (0, 2)), (3, (2,))):
        places = range(count)
        choice = [(on, -1, more) for on in places for more in plains]
        choice += [(on, base, more) for on in places for base in places for more in (0, 1)]
        for length in range(4):
            for rules in itertools.product(choice, repeat=length):
                yield count, list(rules)


SMALL_MOST = 4


class Dice:
    """Numbers that look thrown but are the same in every run."""

    def __init__(self, seed):
        self.state = seed

    def throw(self, sides):
        self.state = (self.state * 6364136223846793005 + 1442695040888963407) % 2 ** 64
        return (self.state >> 33) % sides


def thrown_rule(dice, count, mores):
    on = dice.throw(count)
    if dice.throw(4) == 0:
        return (on, -1, (0, 1, 7, 90, 99999)[dice.throw(5)])
    return (on, dice.throw(count), mores[dice.throw(len(mores))])


def uphill(rule):
    """The rule with its link, if it is one, turned to lead from a lower place to a higher one."""
    on, base, more = rule
    if base == -1:
        return rule
    return (max(on, base), min(on, base), more if on != base else 0)


def thrown_lists():
    """Bigger lists: some with rings, some without, some with links that lead round and sum to 0."""
    dice = Dice(5)
    for turn in range(600):
        count = 1 + dice.throw(MEMBERS_MOST)
        length = dice.throw(RULES_MOST + 1)
        mores = ((0,), (0, 0, 0, 0, 0, 1), (0, 1, 2, 99), (1, 50, 99))[turn % 4]
        rules = [thrown_rule(dice, count, mores) for part in range(length)]
        if turn % 8 >= 4:
            rules = [uphill(rule) for rule in rules]
        yield count, rules


def round_of(size, mores):
    """Links 0 to 1, 1 to 2, and so on, the last back to 0, with these mores in turn."""
    return [((place + 1) % size, place, mores[place]) for place in range(size)]


def one_above_nought(size):
    """Rounds of this many links, each with its one more above 0 at another spot of the list, in two orders."""
    for spot in range(size):
        rules = round_of(size, [1 if place == spot else 0 for place in range(size)])
        yield rules
        yield rules[::-1]


def ringed_lists():
    """Lists with a ring in which only some of the members are."""
    for size in range(1, 5):
        for rules in one_above_nought(size):
            yield size + 3, [(size, -1, 40), (size + 1, size, 9)] + rules
            # A member ahead of the ring, and one behind it.
            yield size + 3, rules + [(0, size, 7), (size + 1, 0, 3), (size, -1, 99999)]
            yield size + 3, [(size + 2, size + 1, 0), (size + 1, size + 2, 0)] + rules + [(0, -1, 5)]


def longer_chains(rules, chains):
    """Each of these chains with each rule behind it that may stand there by point 7, in the order of their places."""
    return [
        chain + [place]
        for chain in chains
        for place, (on, base, more) in enumerate(rules)
        if base >= 0 and base == rules[chain[-1]][0]
    ]


def search_chains(rules, member, width, most):
    """All chains of the member that sum to the width and have the fewest rules, up to most; the first by turn is first.

    Chains of one length are made in the order of their places from the beginning.
    """
    chains = [[place] for place in range(len(rules))]
    for length in range(1, most + 1):
        found = [
            chain for chain in chains
            if rules[chain[-1]][0] == member and sum(rules[place][2] for place in chain) == width
        ]
        if found:
            return found
        chains = longer_chains(rules, chains)
    return []


def tied_rule(dice, count, low):
    on = dice.throw(count)
    if dice.throw(3) == 0:
        return (on, -1, 1 + dice.throw(2))
    return (on, dice.throw(count), dice.throw(1 + low))


def tied_lists():
    """Lists without a ring in which many chains sum to the same: few members, many rules, low mores."""
    dice = Dice(7)
    for turn in range(600):
        count = 3 + dice.throw(3)
        rules = []
        for part in range(5 + dice.throw(9)):
            rule = tied_rule(dice, count, turn % 3)
            if not has_ring(rules + [rule]):
                rules.append(rule)
        yield count, rules
    for turn in range(200):
        yield 6, storey_list(dice)


def storey_list(dice):
    """Two members on each of three storeys, and links from storey to storey: every way up sums to the same."""
    rest = [(0, -1, 4), (1, -1, 4), (2, 0, 1), (2, 1, 1), (3, 0, 1), (3, 1, 1)]
    rest += [(on + 2, base + 2, more) for on, base, more in rest[2:]]
    rest += [rest[dice.throw(len(rest))], (5, 0, 2), (0, 1, 0)]
    rules = []
    while rest:
        rule = rest.pop(dice.throw(len(rest)))
        if dice.throw(5) > 0:
            rules.append(rule)
    return rules


def without_ring(lists):
    return [(count, rules) for count, rules in lists if not has_ring(rules)]
