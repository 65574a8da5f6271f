"""Standings that come back, added as one group: by their sums, up to whole turns."""

from ballchutes.checking import check_standing, is_number
from ballchutes.errors import BadBalls, NotBack
from ballchutes.lattices import Diagonal
from ballchutes.rounds import comes_back, first_back, round_of, standing_behind
from ballchutes.turning import turn_inverse, turn_matrix


def sum_of(net, standing):
    """The sum of a standing: what its knots took since their first places, less what they let fall to knots."""
    turn_inverse(net)
    check_standing(net, standing)
    sums = {knot: standing[knot] for knot in net.knots}
    for knot in net.knots:
        for target, many in net.dropped(knot, 0, standing[knot]).items():
            if target in sums:
                sums[target] -= many
    return sums


def factors(net):
    """The numbers from 2 on, each of which divides the next one, modulo which the standings that come back add."""
    turn_inverse(net)
    return [factor for factor in Diagonal(turn_matrix(net)).factors if factor > 1]


def standing_with(net, numbers):
    """The standing that comes back whose sum is, up to whole turns, that of the first one and these numbers."""
    turn_inverse(net)
    if not isinstance(numbers, dict):
        raise BadBalls("numbers are a dict from knots to integers")
    for knot, number in numbers.items():
        if knot not in net.knots or not is_number(number):
            raise BadBalls(f"there cannot be {number!r} for {knot!r}")
    # Balls add to the sum as many; whole rounds of balls are whole turns, and may be left out or added.
    balls = {knot: number % round_of(net, knot).many for knot, number in numbers.items()}
    return standing_behind(net, balls, first_back(net, net.start()))


def many_times(net, standing, many):
    """The standing that comes back which is so many times as far from the first one as this one, by their sums."""
    check_back(net, standing)
    if not is_number(many):
        raise BadBalls("many is an integer")
    more = sums_apart(net, first_back(net, net.start()), standing)
    return standing_with(net, {knot: many * number for knot, number in more.items()})


def check_back(net, standing):
    """Raises BadNet, NeverEnds, BadStanding or NotBack if this is no standing of the net that comes back."""
    if not comes_back(net, standing):
        raise NotBack("only standings that come back can be added")


def sums_apart(net, one, other):
    """By how much, for each knot, the sum of the other standing is more than that of the one."""
    ones, others = sum_of(net, one), sum_of(net, other)
    return {knot: others[knot] - ones[knot] for knot in net.knots}
