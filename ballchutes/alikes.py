"""Whether two nets bring the same out for all balls, with evidence for both."""

from ballchutes.checking import are_balls, check_net
from ballchutes.errors import Unlike
from ballchutes.pairing import first_apart, stays_within
from ballchutes.settling import settle
from ballchutes.turning import turn_inverse
from ballchutes.ways import ways


class Alike:
    """Evidence that two nets are alike: pairs of numbers of standings of both, which the same balls lead to."""

    def __init__(self, pairs):
        self.pairs = list(pairs)

    def shows(self, one, other):
        """Whether these pairs are as described for the nets."""
        check_both(one, other)
        ones, others = ways(one), ways(other)
        told = {pair: True for pair in self.pairs}
        if (0, 0) not in told or not all([is_pair(pair, len(ones), len(others)) for pair in told]):
            return False
        return all([stays_within(ones, others, pair, told) for pair in told])

    def __bool__(self):
        return True

    def __eq__(self, other):
        return isinstance(other, Alike) and self.pairs == other.pairs


class Told:
    """Evidence that two nets are not alike: balls for which some outlet gets unlike numbers."""

    def __init__(self, balls):
        self.balls = dict(balls)

    def shows(self, one, other):
        """Whether these balls tell the nets apart."""
        check_both(one, other)
        if sorted(self.balls) != list(one.inlets) or not are_balls(self.balls, one.inlets):
            return False
        return settle(one, self.balls).out != settle(other, self.balls).out

    def __bool__(self):
        return False

    def __eq__(self, other):
        return isinstance(other, Told) and self.balls == other.balls


def check_both(one, other):
    """Raises BadNet, NeverEnds or Unlike if it cannot be asked whether these are alike."""
    check_net(one)
    check_net(other)
    turn_inverse(one)
    turn_inverse(other)
    if list(one.inlets) != list(other.inlets):
        raise Unlike("inlets")
    if one.outlets != other.outlets:
        raise Unlike("outlets")


def is_pair(pair, many, other_many):
    """Whether the numbers of this pair are from 0 on, and below these."""
    one, other = pair
    return 0 <= one < many and 0 <= other < other_many


def judge_alike(one, other):
    """An Alike if the nets are alike, otherwise a Told."""
    check_both(one, other)
    # The first ball whose row differs is the first one by which the sums do: no fewer balls tell the nets apart.
    inlets, pairs = first_apart(ways(one), ways(other), (0, 0), {})
    if inlets is None:
        return Alike(pairs)
    return Told({inlet: inlets.count(inlet) for inlet in one.inlets})
