"""Standings that come back, and whole rounds of balls that bring them back."""

from math import gcd

from ballchutes.checking import check_standing, knot_of
from ballchutes.errors import NotBack
from ballchutes.playing import Play
from ballchutes.turning import left_by_turns, turn_inverse


class Round:
    """Evidence of the least number of balls that brings back what comes back, and of the turns it takes."""

    def __init__(self, many, turns):
        self.many = many
        self.turns = dict(turns)

    def shows(self, net, name):
        """Whether this is the round of a knot or inlet."""
        return self == round_of(net, name)

    def __eq__(self, other):
        return isinstance(other, Round) and self.many == other.many and self.turns == other.turns


def round_of(net, name):
    """The whole round of a knot or inlet."""
    determinant, rows = turn_inverse(net)
    knot = knot_of(net, name)
    row = rows[list(net.knots).index(knot)]
    common = common_divisor(determinant, row)
    turns = {target: number // common for target, number in zip(net.knots, row)}
    return Round(determinant // common, turns)


def common_divisor(number, row):
    """The greatest common divisor of a number and a row of numbers."""
    for other in row:
        number = gcd(number, other)
    return number


def even_round(net):
    """The least number of balls from 1 on, as many at each knot, that brings back what comes back."""
    determinant, rows = turn_inverse(net)
    sums = [sum(column) for column in zip(*rows)]
    return determinant // common_divisor(determinant, sums)


def standing_behind(net, balls, standing):
    """The standing behind these balls, when all rest."""
    play = Play(net, balls, standing)
    play.rest()
    return play.standing


def comes_back(net, standing):
    """Whether a standing comes back."""
    many = even_round(net)
    check_standing(net, standing)
    return is_back(net, standing, many)


def is_back(net, standing, many):
    """Whether so many balls at each knot, a multiple of those of an even round, lead a standing to itself.

    If they do, balls at each knot, as many as one likes, lead from this standing to itself; then it comes back.
    """
    return standing_behind(net, {knot: many for knot in net.knots}, standing) == standing


def first_back(net, standing):
    """The first standing that comes back behind whole rounds of balls at all knots, as many at each."""
    many = even_round(net)
    check_standing(net, standing)
    last = None
    behind = {knot: standing[knot] for knot in net.knots}
    # Further rounds do not change what came back: so it does not matter if the first such standing is passed.
    while behind != last:
        last = behind
        behind = standing_behind(net, {knot: many for knot in net.knots}, last)
        many = 2 * many
    return last


def many_back(net):
    """How many of the standings of a net come back."""
    determinant, _ = turn_inverse(net)
    return determinant


def ahead(net, standing, name):
    """The standing that comes back from which one ball at a knot or inlet leads to this one."""
    many = even_round(net)
    knot = knot_of(net, name)
    check_standing(net, standing)
    if not is_back(net, standing, many):
        raise NotBack("only standings that come back have one ahead that does")
    return standing_behind(net, {knot: round_of(net, knot).many - 1}, standing)


def same_back(net, one, other):
    """Whether two dicts of balls lead each standing that comes back to the same one."""
    inverse = turn_inverse(net)
    ones = balls_at_knots(net, one)
    others = balls_at_knots(net, other)
    # They do if whole turns of knots take what the ones are more than the others.
    return not any(left_by_turns(inverse, [ones[knot] - others[knot] for knot in net.knots]))


def balls_at_knots(net, balls):
    """How many of these balls come in at each knot; NoPart for the first name that is no knot or inlet."""
    numbers = {knot: 0 for knot in net.knots}
    for name, many in balls.items():
        knot = knot_of(net, name)
        numbers[knot] += many
    return numbers
