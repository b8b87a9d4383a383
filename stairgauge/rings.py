"""Rings: links that lead round and ask a member to be wider than itself (points 4 and 6)."""

from stairgauge.least import is_link


# The places of links that lead from one member to another over the fewest members, so over none twice;
# an empty list where the two are one member, None where no links lead there.
def find_way(rules, start, goal):
    ways = {start: []}
    waiting = [start]
    while waiting and goal not in ways:
        member = waiting.pop(0)
        for place, rule in enumerate(rules):
            if rule[1] == member and rule[0] not in ways:
                ways[rule[0]] = ways[member] + [place]
                waiting.append(rule[0])
    return ways.get(goal)


# No more is below 0, so a ring has a link with more above 0, and any way back to that link's base closes one.
def find_ring(count, rules):
    for place, rule in enumerate(rules):
        if is_link(rule) and rule[2] > 0:
            way = find_way(rules, rule[0], rule[1])
            if way is not None:
                return [place] + way
    return []
