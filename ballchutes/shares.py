"""How much of each ball comes out at an outlet in the long run."""

from ballchutes.checking import check_outlet, knot_of
from ballchutes.ratios import fraction, same_fractions
from ballchutes.rounds import round_of
from ballchutes.turning import falls_in_turn, turn_inverse


class Shares:
    """Evidence of what balls at the knots are worth at an outlet."""

    def __init__(self, worths):
        self.worths = dict(worths)

    def shows(self, net, outlet):
        """Whether these worths are as described for the outlet."""
        # A net that ends has just one such dict.
        return same_fractions(self.worths, shares(net, outlet).worths)

    def __eq__(self, other):
        return isinstance(other, Shares) and self.worths == other.worths


def shares(net, outlet):
    """The worths of all knots at an outlet."""
    determinant, rows = turn_inverse(net)
    check_outlet(net, outlet)
    falls = [falls_in_turn(net, knot, outlet) for knot in net.knots]
    worths = {}
    for knot, row in zip(net.knots, rows):
        top = sum([part * many for part, many in zip(row, falls)])
        worths[knot] = fraction(top, determinant)
    return Shares(worths)


def share_of(net, name, outlet):
    """What a ball at a knot or inlet is worth at an outlet."""
    turn_inverse(net)
    knot = knot_of(net, name)
    return shares(net, outlet).worths[knot]


def gained(net, name, outlet):
    """How many balls come out at an outlet in a whole round of a knot or inlet, and how many those of it are."""
    found = round_of(net, name)
    check_outlet(net, outlet)
    out = sum([times * falls_in_turn(net, knot, outlet) for knot, times in found.turns.items()])
    return out, found.many
