"""How far what comes out at an outlet can be from what the balls are worth."""

from ballchutes.checking import check_outlet, check_standing
from ballchutes.ratios import NOTHING, gap, is_fraction, minus, plus, same
from ballchutes.shares import Shares, shares
from ballchutes.turning import turn_inverse


class Levels:
    """Evidence of the worths of the knots at an outlet, and of the heights of their places."""

    def __init__(self, worths, heights):
        self.worths = dict(worths)
        self.heights = {knot: list(row) for knot, row in heights.items()}

    def shows(self, net, outlet):
        """Whether these worths and heights are as described for the outlet."""
        worths = shares(net, outlet).worths
        if not Shares(self.worths).shows(net, outlet) or sorted(self.heights) != list(net.knots):
            return False
        return all([are_heights(net, knot, self.heights[knot], steps_of(net, knot, worths, outlet))
                    for knot in net.knots])

    def __eq__(self, other):
        return isinstance(other, Levels) and self.worths == other.worths and self.heights == other.heights


def are_heights(net, knot, heights, steps):
    """Whether a knot's places have these heights, if each next place is higher by these steps."""
    if len(heights) != len(steps):
        return False
    for place, step in enumerate(steps):
        behind = net.place_behind(knot, place, 1)
        if not is_fraction(heights[place]) or not same(heights[behind], plus(heights[place], step)):
            return False
    return True


def steps_of(net, knot, worths, outlet):
    """For each place of a knot, how much higher the next one is."""
    front, turn = net.knots[knot]
    return [minus(worths[knot], worth_of_drop(drop, worths, outlet)) for drop in front + turn]


def worth_of_drop(drop, worths, outlet):
    """What the balls of a drop are worth at an outlet."""
    worth = (drop.count(outlet), 1)
    for target in drop:
        worth = plus(worth, worths.get(target, NOTHING))
    return worth


def levels(net, outlet):
    """The worths of all knots at an outlet, and the heights of their places, 0 at each first one."""
    worths = shares(net, outlet).worths
    heights = {}
    for knot in net.knots:
        row = [NOTHING]
        for step in steps_of(net, knot, worths, outlet):
            row.append(plus(row[-1], step))
        # The last one is behind the last place, where the turn begins once more.
        heights[knot] = row[:-1]
    return Levels(worths, heights)


def lag(net, outlet, one, other):
    """How much higher the places of the standing other are together than those of one."""
    turn_inverse(net)
    check_outlet(net, outlet)
    check_standing(net, one)
    check_standing(net, other)
    total = NOTHING
    for knot, row in levels(net, outlet).heights.items():
        total = plus(total, minus(row[other[knot]], row[one[knot]]))
    return total


def spread(net, outlet):
    """The sum over the knots of their greatest height less the least one."""
    total = NOTHING
    for row in levels(net, outlet).heights.values():
        total = plus(total, gap(row))
    return total
