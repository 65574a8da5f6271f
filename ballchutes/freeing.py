"""Knots that may start anywhere, with evidence for both."""

from ballchutes.checking import are_balls, is_standing
from ballchutes.errors import NoPart
from ballchutes.pairing import first_apart, stays_within
from ballchutes.settling import settle
from ballchutes.subsets import parts_less_one, sets_with_one_more, wider_sets
from ballchutes.turning import turn_inverse
from ballchutes.walking import Walk, places_of, standing_at


class Free:
    """Evidence that knots may start anywhere: pairs of standings from which the same comes out."""

    def __init__(self, pairs):
        self.pairs = [(dict(one), dict(other)) for one, other in pairs]

    def shows(self, net, names):
        """Whether these pairs are as described for these knots."""
        check_knots(net, names)
        if not all([is_standing(net, one) and is_standing(net, other) for one, other in self.pairs]):
            return False
        told = {(places_of(net, one), places_of(net, other)): True for one, other in self.pairs}
        many = count_starts(net, names)
        # All of the many starts cannot be told by fewer pairs: so no more of them are looked at than pairs are told.
        if many > len(told):
            return False
        start = places_of(net, net.start())
        if not all([(start, numbered_start(net, names, number)) in told for number in range(many)]):
            return False
        walk = Walk(net)
        return all([stays_within(walk, walk, pair, told) for pair in told])

    def __bool__(self):
        return True

    def __eq__(self, other):
        return isinstance(other, Free) and self.pairs == other.pairs


class Bound:
    """Evidence that knots may not start anywhere: a standing, and balls that tell it from the start."""

    def __init__(self, standing, balls):
        self.standing = dict(standing)
        self.balls = dict(balls)

    def shows(self, net, names):
        """Whether this standing and these balls are as described for these knots."""
        check_knots(net, names)
        if not is_standing(net, self.standing) or not are_balls(self.balls, net.inlets):
            return False
        if any([place != 0 and knot not in names for knot, place in self.standing.items()]):
            return False
        return settle(net, self.balls, self.standing).out != settle(net, self.balls).out

    def __bool__(self):
        return False

    def __eq__(self, other):
        return isinstance(other, Bound) and self.standing == other.standing and self.balls == other.balls


class Comparing:
    """Standings of a net that are compared with its start; what was found the same is kept."""

    def __init__(self, net):
        self.net = net
        self.walk = Walk(net)
        self.start = places_of(net, net.start())
        self.same = {}

    def apart(self, places):
        """The first list of inlets that tells these places from the start, None if there is none."""
        inlets, pairs = first_apart(self.walk, self.walk, (self.start, places), self.same)
        for pair in pairs:
            self.same[pair] = True
        return inlets

    def bound(self, names):
        """The Bound of these knots, None if they may start anywhere."""
        for number in range(count_starts(self.net, names)):
            places = numbered_start(self.net, names, number)
            inlets = self.apart(places)
            if inlets is not None:
                balls = {inlet: inlets.count(inlet) for inlet in self.net.inlets}
                return Bound(standing_at(self.net, places), balls)
        return None


def check_knots(net, names):
    """Raises BadNet, NeverEnds, or NoPart if these are no knots of the net."""
    turn_inverse(net)
    if not isinstance(names, (list, tuple)):
        raise NoPart(None)
    for name in names:
        if not isinstance(name, str) or name not in net.knots:
            raise NoPart(name)


def count_starts(net, names):
    """How many standings differ from the start in these knots at most."""
    many = 1
    for knot, (front, turn) in net.knots.items():
        if knot in names:
            many *= len(front) + len(turn)
    return many


def numbered_start(net, names, number):
    """The places of the standing with this number among those that differ from the start in these knots at most."""
    places = []
    for knot, (front, turn) in net.knots.items():
        place = 0
        if knot in names:
            number, place = divmod(number, len(front) + len(turn))
        places.append(place)
    return tuple(places)


def judge_free(net, names):
    """A Free if these knots may start anywhere, otherwise a Bound."""
    check_knots(net, names)
    comparing = Comparing(net)
    found = comparing.bound(names)
    if found is not None:
        return found
    return Free([(standing_at(net, one), standing_at(net, other)) for one, other in comparing.same])


def free_sets(net):
    """The greatest sets of knots that may start anywhere together, larger ones first, then ascending."""
    turn_inverse(net)
    comparing = Comparing(net)
    free = {(): True}
    near = [()]
    while near:
        far = []
        for names in wider_sets(net, near):
            # What is free is free in all parts: so most sets need not be looked at.
            if all([part in free for part in parts_less_one(names)]) and comparing.bound(names) is None:
                far.append(names)
        for names in far:
            free[names] = True
        near = far
    greatest = [names for names in free if not any([wider in free for wider in sets_with_one_more(net, names)])]
    return sorted(greatest, key=size_first)


def size_first(names):
    """What larger sets are ahead by, then lesser ones."""
    return -len(names), names
