"""How far an outlet is ahead of another one, with evidence whether this has an end."""

from ballchutes.checking import are_balls, check_outlet, is_standing
from ballchutes.rounds import round_of
from ballchutes.settling import settle
from ballchutes.shares import gained
from ballchutes.turning import turn_inverse
from ballchutes.walking import Walk, places_of
from ballchutes.ways import ways


class Even:
    """Evidence that an outlet is ahead of another one by two numbers at least and at most, with balls for both."""

    def __init__(self, least, most, low, high, standings):
        self.least = least
        self.most = most
        self.low = dict(low)
        self.high = dict(high)
        self.standings = [dict(standing) for standing in standings]

    def shows(self, net, one, other):
        """Whether these numbers, balls and standings are as described for two outlets."""
        found = judge_even(net, one, other)
        if not found or self.least != found.least or self.most != found.most:
            return False
        if not is_ahead_by(net, self.low, one, other, self.least):
            return False
        return is_ahead_by(net, self.high, one, other, self.most) and are_closed(net, self.standings)

    def __bool__(self):
        return True

    def __eq__(self, other):
        return (isinstance(other, Even) and self.least == other.least and self.most == other.most
                and self.low == other.low and self.high == other.high and self.standings == other.standings)


class Uneven:
    """Evidence that whole rounds of an inlet bring an outlet further and further ahead of another one, or behind."""

    def __init__(self, inlet, balls, more):
        self.inlet = inlet
        self.balls = balls
        self.more = more

    def shows(self, net, one, other):
        """Whether this is a whole round of an inlet, by which the first outlet is so much further ahead."""
        check_outlets(net, one, other)
        if self.inlet not in net.inlets or self.balls != round_of(net, self.inlet).many:
            return False
        return self.more != 0 and self.more == more_by_round(net, self.inlet, one, other)

    def __bool__(self):
        return False

    def __eq__(self, other):
        return (isinstance(other, Uneven) and self.inlet == other.inlet and self.balls == other.balls
                and self.more == other.more)


def check_outlets(net, one, other):
    """Raises BadNet, NeverEnds, or NoPart for the first of two that is no outlet."""
    turn_inverse(net)
    check_outlet(net, one)
    check_outlet(net, other)


def is_ahead_by(net, balls, one, other, many):
    """Whether the first outlet is ahead by so many behind these balls at inlets."""
    if not are_balls(balls, net.inlets):
        return False
    out = settle(net, balls).out
    return out[one] - out[other] == many


def are_closed(net, standings):
    """Whether the start is one of these standings, and a ball at any inlet leads from each to one of them."""
    if not all([is_standing(net, standing) for standing in standings]):
        return False
    told = {places_of(net, standing): True for standing in standings}
    if places_of(net, net.start()) not in told:
        return False
    walk = Walk(net)
    return all([behind in told for places in told for behind, _ in walk.steps_at(places).values()])


def more_by_round(net, inlet, one, other):
    """By how many the first outlet is further ahead behind a whole round of an inlet."""
    return gained(net, inlet, one)[0] - gained(net, inlet, other)[0]


def judge_even(net, one, other):
    """An Even if the first outlet is never further ahead or behind than by some numbers, otherwise an Uneven."""
    check_outlets(net, one, other)
    for inlet in net.inlets:
        more = more_by_round(net, inlet, one, other)
        if more != 0:
            return Uneven(inlet, round_of(net, inlet).many, more)
    # By no whole round it gets further ahead: so it is ahead by as much for all balls that lead to one standing.
    found = ways(net)
    leads, balls = leads_of(net, found, one, other)
    least, most = min(leads), max(leads)
    return Even(least, most, balls[leads.index(least)], balls[leads.index(most)], found.standings)


def leads_of(net, found, one, other):
    """For each of the standings of a net's ways by how many the first outlet is ahead; and balls that lead there."""
    ahead, behind = net.outlets.index(one), net.outlets.index(other)
    leads = [0]
    balls = [{inlet: 0 for inlet in net.inlets}]
    for number, step in enumerate(found.steps):
        for inlet, (reached, row) in step.items():
            # Standings are numbered as they are first reached.
            if reached == len(leads):
                leads.append(leads[number] + row[ahead] - row[behind])
                balls.append({**balls[number], inlet: balls[number][inlet] + 1})
    return leads, balls
