"""Balls at told knots and inlets that lead from one standing that comes back to another one."""

from ballchutes.checking import are_balls, check_standing, knot_of
from ballchutes.errors import NoPart, NotBack
from ballchutes.groups import sums_apart
from ballchutes.lattices import Diagonal, dot, unit_row
from ballchutes.rounds import balls_at_knots, even_round, is_back, round_of
from ballchutes.subsets import wider_sets
from ballchutes.turning import left_by_turns, turn_inverse, turn_matrix


class Reaches:
    """Evidence that balls at some names lead from one standing to another one."""

    def __init__(self, balls):
        self.balls = dict(balls)

    def shows(self, net, one, other, names):
        """Whether these are balls at the names, and lead from the one standing to the other one."""
        check_reach(net, one, other, names)
        if not are_balls(self.balls, names):
            return False
        came = balls_at_knots(net, self.balls)
        apart = sums_apart(net, one, other)
        # Of the standings that come back just one has this sum, up to whole turns.
        return not any(left_by_turns(turn_inverse(net), [apart[knot] - came[knot] for knot in net.knots]))

    def __bool__(self):
        return True

    def __eq__(self, other):
        return isinstance(other, Reaches) and self.balls == other.balls


class Barred:
    """Evidence that no balls at some names do: weights by which, modulo a number, just the way there weighs some."""

    def __init__(self, weights, modulus):
        self.weights = dict(weights)
        self.modulus = modulus

    def shows(self, net, one, other, names):
        """Whether, by these weights, whole turns and balls at the names weigh nothing, but what is between does."""
        check_reach(net, one, other, names)
        if sorted(self.weights) != list(net.knots) or self.modulus < 2:
            return False
        weights = [self.weights[knot] for knot in net.knots]
        if any([dot(turn, weights) % self.modulus != 0 for turn in turn_matrix(net)]):
            return False
        if any([self.weights[knot_of(net, name)] % self.modulus != 0 for name in names]):
            return False
        return dot(list(sums_apart(net, one, other).values()), weights) % self.modulus != 0

    def __bool__(self):
        return False

    def __eq__(self, other):
        return isinstance(other, Barred) and self.weights == other.weights and self.modulus == other.modulus


def check_both_back(net, one, other):
    """Raises BadNet, NeverEnds, BadStanding or NotBack if these are not two standings that come back."""
    many = even_round(net)
    check_standing(net, one)
    check_standing(net, other)
    for standing in (one, other):
        if not is_back(net, standing, many):
            raise NotBack("balls lead on from each other only standings that come back")


def check_reach(net, one, other, names):
    """Raises what check_both_back does, or NoPart if these are no knots and inlets."""
    check_both_back(net, one, other)
    if not isinstance(names, (list, tuple)):
        raise NoPart(None)
    for name in names:
        knot_of(net, name)


def judge_reach(net, one, other, names):
    """A Reaches if balls at these names lead from the one standing to the other one, otherwise a Barred."""
    check_reach(net, one, other, names)
    told = sorted(set(names))
    knots = list(net.knots)
    units = [unit_row(knots.index(knot_of(net, name)), len(knots)) for name in told]
    turns = turn_matrix(net)
    diagonal = Diagonal(turns + units)
    apart = list(sums_apart(net, one, other).values())
    place = diagonal.first_undivided(apart)
    if place is not None:
        modulus = diagonal.factors[place]
        return Barred({knot: weight % modulus for knot, weight in zip(knots, diagonal.right[place])}, modulus)
    times = diagonal.times_for(apart)[len(turns):]
    # Whole rounds of balls lead back to where they began: so they may be added where a number is below 0.
    return Reaches({name: many % round_of(net, name).many for name, many in zip(told, times)})


def fewest_to(net, one, other, name):
    """The least number of balls at a knot or inlet that lead from the one standing to the other one, or None."""
    check_both_back(net, one, other)
    knot = knot_of(net, name)
    inverse = turn_inverse(net)
    determinant, rows = inverse
    ball = rows[list(net.knots).index(knot)]
    left = left_by_turns(inverse, list(sums_apart(net, one, other).values()))
    for many in range(round_of(net, knot).many):
        if not any(left):
            return many
        left = [(had - part) % determinant for had, part in zip(left, ball)]
    return None


def reaching_sets(net):
    """The least sets of knots whose balls lead all standings that come back to each other, smaller ones first."""
    turn_inverse(net)
    found = []
    near = [()]
    while near:
        near = [names for names in near if not any([is_part(least, names) for least in found])]
        reaching = [names for names in near if leads_everywhere(net, names)]
        found.extend(reaching)
        near = wider_sets(net, [names for names in near if names not in reaching])
    return found


def is_part(names, others):
    """Whether all of these names are among the others."""
    return all([name in others for name in names])


def leads_everywhere(net, names):
    """Whether balls at these knots lead each standing that comes back to each other one."""
    units = [unit_row(at, len(net)) for at, knot in enumerate(list(net.knots)) if knot in names]
    return Diagonal(turn_matrix(net) + units).factors[-1] == 1
