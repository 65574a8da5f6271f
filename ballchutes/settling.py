"""Balls that drop in any order, and what is so when all rest."""

from ballchutes.checking import check_balls_from, check_net
from ballchutes.errors import BadOrder
from ballchutes.playing import Play
from ballchutes.turning import turn_inverse


class Settled:
    """Evidence of what is so when no ball waits: what was taken, what is out, the standing; and an order."""

    def __init__(self, taken, out, standing, order):
        self.taken = dict(taken)
        self.out = dict(out)
        self.standing = dict(standing)
        self.order = list(order)

    def shows(self, net, balls, standing=None):
        """Whether the order settles these balls, and leads to what is told."""
        check_net(net)
        check_balls_from(net, balls, standing)
        play = Play(net, balls, standing)
        if play.follow(self.order) is not None or play.waits:
            return False
        return self.taken == play.taken and self.out == play.out and self.standing == play.standing

    def __eq__(self, other):
        return (isinstance(other, Settled) and self.taken == other.taken and self.out == other.out
                and self.standing == other.standing and self.order == other.order)


def settle(net, balls, standing=None):
    """What is so when these balls rest, from a standing on (the start, if None)."""
    turn_inverse(net)
    check_balls_from(net, balls, standing)
    play = Play(net, balls, standing)
    order = play.rest()
    return Settled(play.taken, play.out, play.standing, order)


def played(net, balls, order, standing=None):
    """What waits, what is out, and the standing, behind an order."""
    check_net(net)
    check_balls_from(net, balls, standing)
    if not isinstance(order, (list, tuple)):
        raise BadOrder(None)
    play = Play(net, balls, standing)
    wrong = play.follow(order)
    if wrong is not None:
        raise BadOrder(wrong)
    waits = {knot: play.waits[knot] for knot in net.knots if knot in play.waits}
    return waits, play.out, play.standing


def knots_in_turn(net, balls, standing=None):
    """Generates the knots that take a ball, if always the first one at which a ball waits does."""
    turn_inverse(net)
    check_balls_from(net, balls, standing)
    play = Play(net, balls, standing)
    while play.waits:
        knot = min(list(play.waits))
        play.take(knot, 1)
        yield knot
