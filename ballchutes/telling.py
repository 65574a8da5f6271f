"""Lists of inlets by whose balls it is told from which of some standings a net began, or where it stands then.

What is so behind such a list is told by two tuples with something for each of the standings: the places behind
the balls, and the number of its group, those from which the same came out so far.
"""

from ballchutes.checking import check_standing, is_standing
from ballchutes.errors import BadNumber
from ballchutes.pairing import first_apart, inlets_to, stays_within
from ballchutes.turning import turn_inverse
from ballchutes.walking import Walk, places_of, standing_at
from ballchutes.ways import numbered

MOST_STANDINGS = 6


class Telling:
    """Evidence of a list of inlets that tells all standings apart that any list does, and which ones none does."""

    def __init__(self, balls, pairs, closed):
        self.balls = list(balls)
        self.pairs = list(pairs)
        self.closed = [(dict(one), dict(other)) for one, other in closed]

    def shows(self, net, standings):
        """Whether the list, be it the first one or not, and the pairs are as described for these standings."""
        check_standings(net, standings)
        if not all([inlet in net.inlets for inlet in self.balls]):
            return False
        if not all([is_standing(net, one) and is_standing(net, other) for one, other in self.closed]):
            return False
        walk = Walk(net)
        if self.pairs != pairs_within(groups_behind(walk, standings, self.balls)):
            return False
        told = {(places_of(net, one), places_of(net, other)): True for one, other in self.closed}
        if not all([pair in told for pair in places_of_pairs(net, standings, self.pairs)]):
            return False
        return all([stays_within(walk, walk, pair, told) for pair in told])

    def __eq__(self, other):
        return (isinstance(other, Telling) and self.balls == other.balls and self.pairs == other.pairs
                and self.closed == other.closed)


def check_standings(net, standings):
    """Raises BadNet, NeverEnds, BadNumber or BadStanding if these are not two to six standings of a net that ends."""
    turn_inverse(net)
    if not isinstance(standings, (list, tuple)) or not 2 <= len(standings) <= MOST_STANDINGS:
        raise BadNumber("two to six standings are told apart")
    for standing in standings:
        check_standing(net, standing)


def first_state(net, standings):
    """What is so ahead of all balls, when nothing tells these standings apart."""
    return tuple([places_of(net, standing) for standing in standings]), (0,) * len(standings)


def state_behind(walk, state, inlet):
    """What is so behind one more ball, at this inlet."""
    places, groups = state
    steps = [walk.steps_at(each)[inlet] for each in places]
    rows = [row for _, row in steps]
    return tuple([behind for behind, _ in steps]), tuple(numbered(list(zip(groups, rows))))


def groups_behind(walk, standings, balls):
    """The groups of the standings behind balls at these inlets."""
    state = first_state(walk.net, standings)
    for inlet in balls:
        state = state_behind(walk, state, inlet)
    return state[1]


def pairs_within(groups):
    """The pairs of numbers, ascending, of those that are in the same group."""
    return [(one, other) for one in range(len(groups)) for other in range(one + 1, len(groups))
            if groups[one] == groups[other]]


def places_of_pairs(net, standings, pairs):
    """For pairs of numbers of standings the pairs of their places."""
    return [(places_of(net, standings[one]), places_of(net, standings[other])) for one, other in pairs]


def same_pairs(walk, standings):
    """The pairs of numbers of the standings that no list tells apart, and the pairs of places that these lead to."""
    pairs, known = [], {}
    for pair in pairs_within((0,) * len(standings)):
        inlets, met = first_apart(walk, walk, places_of_pairs(walk.net, standings, [pair])[0], known)
        if inlets is None:
            pairs.append(pair)
            for other in met:
                known[other] = True
    return pairs, list(known)


def is_told(state, target):
    """Whether the standings are in the groups that are wanted, or, if None are, whether each is known by its group."""
    places, groups = state
    if target is None:
        return tuple(numbered(list(zip(groups, places)))) == groups
    return groups == target


def first_telling(walk, standings, target):
    """The first list of inlets behind which it is told what is_told asks for, None if there is none."""
    first = first_state(walk.net, standings)
    if is_told(first, target):
        return []
    led = {first: None}
    near = [first]
    while near:
        far = []
        for state in near:
            for inlet in walk.net.inlets:
                behind = state_behind(walk, state, inlet)
                if behind not in led:
                    led[behind] = (state, inlet)
                    far.append(behind)
                    if is_told(behind, target):
                        return inlets_to(led, behind)
        near = far
    return None


def groups_of(many, pairs):
    """The groups of so many standings of which just these pairs, ascending, are in the same one."""
    firsts = list(range(many))
    for one, other in pairs:
        firsts[other] = firsts[one]
    return tuple(numbered(firsts))


def telling(net, standings):
    """The Telling of the first list of inlets that tells all of these standings apart that any does, or None."""
    check_standings(net, standings)
    walk = Walk(net)
    pairs, met = same_pairs(walk, standings)
    balls = first_telling(walk, standings, groups_of(len(standings), pairs))
    if balls is None:
        return None
    first = places_of_pairs(net, standings, pairs)
    closed = first + [pair for pair in met if pair not in first]
    return Telling(balls, pairs, [(standing_at(net, one), standing_at(net, other)) for one, other in closed])


def homing(net, standings):
    """The first list of inlets behind whose balls the rows tell where the net stands, None if there is none."""
    check_standings(net, standings)
    return first_telling(Walk(net), standings, None)
