"""The house: what stands in it, its deeds and its questions (points 11 to 24)."""

from stairgauge.bounds import DEEDS_MOST, DEMANDS_MOST, LINK_MORE, MEMBERS_MOST, TOP_WIDTH, inside
from stairgauge.chains import chain_of
from stairgauge.costs import cost_of
from stairgauge.errors import BadName, BadNumber, Full, InUse, NothingBack, NoWidths, Unknown
from stairgauge.least import NO_BASE, least_widths
from stairgauge.names import good_name
from stairgauge.portions import portion
from stairgauge.rings import find_ring
from stairgauge.slacks import first_wide, slack_of


def refuse_unknown(name, names):
    if name not in names:
        raise Unknown("no such name stands")


def place_of(name, names):
    refuse_unknown(name, names)
    return names.index(name)


def refuse_new_name(name, names):
    if name in names:
        raise InUse("the name stands already")
    if not good_name(name):
        raise BadName("a name is 1 to 8 small letters")


def refuse_outside(number, span):
    if not inside(number, span):
        raise BadNumber("the number is outside its range")


def refuse_full(count, most):
    if count >= most:
        raise Full("no more of these can be kept")


def as_rule(row, names):
    base = NO_BASE if row[2] is None else names.index(row[2])
    return (names.index(row[1]), base, row[3])


# A member is kept as a tuple of its name and its greatest width or None, so that the one goes and comes
# back with the other; a demand as point 18 tells it. A deed changes no list that stands but puts a new
# one in its place: so the lists that were kept ahead of it stay as they stood.
class House:
    def __init__(self):
        self.member_rows = []
        self.demand_rows = []
        self.kept_deeds = []

    # Each deed calls it behind all its other refusals, as Full is the last of them, and ahead of its change.
    def keep_deed(self):
        refuse_full(len(self.kept_deeds), DEEDS_MOST)
        self.kept_deeds.append((self.member_rows, self.demand_rows))

    def add_member(self, name):
        refuse_new_name(name, self.members())
        refuse_full(len(self.member_rows), MEMBERS_MOST)
        self.keep_deed()
        self.member_rows = self.member_rows + [(name, None)]

    def add_plain(self, name, member, people, each, over):
        refuse_unknown(member, self.members())
        refuse_new_name(name, self.demand_names())
        self.bring_demand((name, member, None, portion(people, each, over)))

    def add_link(self, name, member, base, more):
        refuse_unknown(member, self.members())
        refuse_unknown(base, self.members())
        refuse_new_name(name, self.demand_names())
        refuse_outside(more, LINK_MORE)
        self.bring_demand((name, member, base, more))

    def bring_demand(self, row):
        refuse_full(len(self.demand_rows), DEMANDS_MOST)
        self.keep_deed()
        self.demand_rows = self.demand_rows + [row]

    def set_top(self, member, width):
        place = place_of(member, self.members())
        if self.greatest_widths()[place] is not None:
            raise InUse("the member has a greatest width already")
        refuse_outside(width, TOP_WIDTH)
        self.change_top(place, width)

    def change_top(self, place, top):
        self.keep_deed()
        row = (self.member_rows[place][0], top)
        self.member_rows = self.member_rows[:place] + [row] + self.member_rows[place + 1:]

    def strike_member(self, name):
        place = place_of(name, self.members())
        if any([name in (row[1], row[2]) for row in self.demand_rows]):
            raise InUse("a demand speaks of the member")
        self.keep_deed()
        self.member_rows = self.member_rows[:place] + self.member_rows[place + 1:]

    def strike_demand(self, name):
        place = place_of(name, self.demand_names())
        self.keep_deed()
        self.demand_rows = self.demand_rows[:place] + self.demand_rows[place + 1:]

    def strike_top(self, member):
        place = place_of(member, self.members())
        if self.greatest_widths()[place] is None:
            raise Unknown("the member has no greatest width")
        self.change_top(place, None)

    def take_back(self):
        if len(self.kept_deeds) == 0:
            raise NothingBack("no deed is left")
        stood = self.kept_deeds.pop()
        self.member_rows = stood[0]
        self.demand_rows = stood[1]

    def members(self):
        return [row[0] for row in self.member_rows]

    def demands(self):
        return list(self.demand_rows)

    def tops(self):
        return [row for row in self.member_rows if row[1] is not None]

    def demand_names(self):
        return [row[0] for row in self.demand_rows]

    # By places, as point 8 tells them.
    def greatest_widths(self):
        return [row[1] for row in self.member_rows]

    # By places, as point 4 tells them.
    def rules(self):
        names = self.members()
        return [as_rule(row, names) for row in self.demand_rows]

    def names_at(self, places):
        return [self.demand_rows[place][0] for place in places]

    def widths(self):
        least = least_widths(len(self.member_rows), self.rules())
        if least is None or first_wide(least, self.greatest_widths()) is not None:
            raise NoWidths("no widths meet all that is asked")
        return least

    # The refusals of point 24 in their order: widths refuses where there are none.
    def asked_place(self, name, names):
        place = place_of(name, names)
        self.widths()
        return place

    def chain(self, member):
        place = self.asked_place(member, self.members())
        return self.names_at(chain_of(len(self.member_rows), self.rules(), place))

    def why(self):
        count = len(self.member_rows)
        rules = self.rules()
        ring = find_ring(count, rules)
        if ring:
            return ("ring", self.names_at(ring))
        place = first_wide(least_widths(count, rules), self.greatest_widths())
        if place is None:
            return None
        return ("wide", self.member_rows[place][0], self.names_at(chain_of(count, rules, place)))

    def slack(self, member):
        place = self.asked_place(member, self.members())
        found = slack_of(len(self.member_rows), self.rules(), self.greatest_widths(), place)
        if found is None:
            return None
        return (found[0], self.member_rows[found[1]][0])

    def cost(self, demand):
        place = self.asked_place(demand, self.demand_names())
        return cost_of(len(self.member_rows), self.rules(), place)
