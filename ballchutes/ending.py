"""Whether a net ends, with evidence for both."""

from ballchutes.checking import are_balls, check_net
from ballchutes.nets import leaders
from ballchutes.playing import Play
from ballchutes.ratios import NOTHING, at_least, fraction, is_fraction, plus
from ballchutes.turning import eliminated, falls_in_turn, turn_matrix


class Ends:
    """Evidence that a net ends: weights of knots, of which each whole turn uses some up."""

    def __init__(self, weights):
        self.weights = dict(weights)

    def shows(self, net):
        """Whether these weights are as described for the net."""
        check_net(net)
        if sorted(self.weights) != list(net.knots):
            return False
        if not all([is_fraction(weight) and at_least(weight, (1, 1)) for weight in self.weights.values()]):
            return False
        return all([self.lasts(net, knot) for knot in net.knots])

    def lasts(self, net, knot):
        """Whether a knot's weight, less 1, is enough for what falls to knots in its turn."""
        turn = net.knots[knot][1]
        top, bottom = self.weights[knot]
        needed = NOTHING
        for drop in turn:
            for target in drop:
                needed = plus(needed, self.weights.get(target, NOTHING))
        return at_least(((top - bottom) * len(turn), bottom), needed)

    def __bool__(self):
        return True

    def __eq__(self, other):
        return isinstance(other, Ends) and self.weights == other.weights


class Never:
    """Evidence that a net does not end: balls, a lead, and a ring that can be done again and again."""

    def __init__(self, balls, lead, ring):
        self.balls = dict(balls)
        self.lead = list(lead)
        self.ring = list(ring)

    def shows(self, net):
        """Whether these balls, lead and ring are as described for the net."""
        check_net(net)
        if not are_balls(self.balls, net.inlets) or len(self.ring) == 0:
            return False
        play = Play(net, self.balls, None)
        if play.follow(self.lead) is not None:
            return False
        standing = dict(play.standing)
        waits = dict(play.waits)
        if play.follow(self.ring) is not None or play.standing != standing:
            return False
        return all([play.waits.get(knot, 0) >= many for knot, many in waits.items()])

    def __bool__(self):
        return False

    def __eq__(self, other):
        return (isinstance(other, Never) and self.balls == other.balls
                and self.lead == other.lead and self.ring == other.ring)


def judge_ends(net):
    """An Ends if the net ends, otherwise a Never."""
    check_net(net)
    determinant, rows = eliminated(turn_matrix(net))
    names = list(net.knots)
    if determinant == 0:
        return never_of(net, {knot: rows[k] for k, knot in enumerate(names)})
    lengths = [len(turn) for _, turn in net.knots.values()]
    weights = {}
    for k, knot in enumerate(names):
        top = sum([part * length for part, length in zip(rows[k], lengths)])
        weights[knot] = fraction(top, determinant)
    return Ends(weights)


def ends(net):
    """Whether the net ends."""
    return bool(judge_ends(net))


def never_of(net, turns):
    """The Never whose ring does each knot's whole turns so often; they bring at least what they take."""
    kept = {knot: turns[knot] * len(turn) for knot, (_, turn) in net.knots.items()}
    led = leaders(net.knots, net.inlets)
    takes = takes_for(net, led, kept)
    balls = {inlet: 0 for inlet in net.inlets}
    for knot, leader in led.items():
        if leader in balls:
            balls[leader] = takes[knot] + kept[knot]
    lead = [(knot, takes[knot]) for knot in led if takes[knot] > 0]
    ring = [(knot, many) for knot, many in kept.items() if many > 0]
    return Never(balls, lead, ring)


def takes_for(net, led, kept):
    """How many balls each knot takes, all of its front too, so that each one gets what it takes and keeps."""
    takes = {}
    for knot in reversed(list(led)):
        front, turn = net.knots[knot]
        times = 0
        for target in takes:
            if led[target] == knot:
                each = falls_in_turn(net, knot, target)
                times = max(times, (takes[target] + kept[target] + each - 1) // each)
        takes[knot] = len(front) + len(turn) * times
    return takes
