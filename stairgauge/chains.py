"""Chains: the rules that force a member's least width (points 4, 5 and 7)."""

from stairgauge.least import asked_width, is_link, least_widths


# A chain falls short of the width for good where a rule in it does not ask for the full width of its on:
# so all but the first of its rules are links like this.
def hands_on(rule, widths):
    return is_link(rule) and widths[rule[0]] == asked_width(rule, widths)


# How many links, at the fewest, hand on the width from each member to the goal;
# a member from which none do is left out.
def fewest_links(rules, widths, goal):
    fewest = {goal: 0}
    waiting = [goal]
    while waiting:
        member = waiting.pop(0)
        for rule in rules:
            if rule[0] == member and rule[1] not in fewest and hands_on(rule, widths):
                fewest[rule[1]] = fewest[member] + 1
                waiting.append(rule[1])
    return fewest


# By its more alone, also where it is a link: point 7 counts the base of a first link as 0 wide.
def first_place(rules, widths, fewest):
    places = [place for place, rule in enumerate(rules) if rule[2] == widths[rule[0]] and rule[0] in fewest]
    nearest = min([fewest[rules[place][0]] for place in places])
    return [place for place in places if fewest[rules[place][0]] == nearest][0]


def next_place(rules, widths, fewest, member):
    nearer = fewest[member] - 1
    links = [place for place, rule in enumerate(rules) if rule[1] == member and hands_on(rule, widths)]
    return [place for place in links if fewest.get(rules[place][0]) == nearer][0]


# The links left to go are counted back from the chain's end, so that from its beginning
# the lowest place can be taken at each spot without making the chain longer.
def chain_of(count, rules, member):
    widths = least_widths(count, rules)
    if widths[member] == 0:
        return []
    fewest = fewest_links(rules, widths, member)
    chain = [first_place(rules, widths, fewest)]
    while rules[chain[-1]][0] != member:
        chain.append(next_place(rules, widths, fewest, rules[chain[-1]][0]))
    return chain
