"""Goals for outlets: the fewest balls by which enough comes out, and balls by which just as much does."""

from ballchutes.checking import check_standing, is_number
from ballchutes.errors import BadGoal, BadNumber
from ballchutes.turning import turn_inverse
from ballchutes.walking import Walk, places_of

MOST_GOAL = 60
MOST_BALLS = 40


class Met:
    """Evidence of the fewest balls that meet a goal, and of what each number of balls with one less lacks."""

    def __init__(self, balls, lacks):
        self.balls = dict(balls)
        self.lacks = {numbers: lacks[numbers] for numbers in lacks}

    def shows(self, net, goal, standing=None):
        """Whether these balls and lacks are as described for a goal, from a standing on (the start, if None)."""
        # Just one pair of them is.
        return self == judge_goal(net, goal, standing)

    def __bool__(self):
        return True

    def __eq__(self, other):
        return isinstance(other, Met) and self.balls == other.balls and self.lacks == other.lacks


class Short:
    """Evidence that a goal is never met: an outlet, and the greatest number that ever comes out there."""

    def __init__(self, outlet, most):
        self.outlet = outlet
        self.most = most

    def shows(self, net, goal, standing=None):
        """Whether this outlet and number are as described for a goal, from a standing on (the start, if None)."""
        check_goal(net, goal, standing)
        return self == short_of(net, goal, standing)

    def __bool__(self):
        return False

    def __eq__(self, other):
        return isinstance(other, Short) and self.outlet == other.outlet and self.most == other.most


class Gains:
    """What comes out by all numbers of balls at the inlets that are as many in all, from a standing on.

    `layer` has them as tuples, ascending, each with the places behind these balls and the sums of their rows.
    """

    def __init__(self, net, standing):
        self.walk = Walk(net)
        places = places_of(net, net.start() if standing is None else standing)
        self.layer = {(0,) * len(net.inlets): (places, (0,) * len(net.outlets))}

    def add_ball(self):
        """Goes on to the tuples with one ball more than those in the layer."""
        wider = {}
        for numbers, (places, sums) in self.layer.items():
            for at, (behind, row) in enumerate(list(self.walk.steps_at(places).values())):
                more = numbers[:at] + (numbers[at] + 1,) + numbers[at + 1:]
                # The same comes out by as many balls, whichever of them comes last.
                if more not in wider:
                    wider[more] = (behind, tuple([had + gain for had, gain in zip(sums, row)]))
        self.layer = {numbers: wider[numbers] for numbers in sorted(wider)}

    def leave_out_above(self, wanted):
        """Leaves out the tuples by which more than what is wanted comes out somewhere; so it does by more balls."""
        self.layer = {numbers: told for numbers, told in self.layer.items() if first_below(wanted, told[1]) is None}


def first_below(sums, wanted):
    """The place of the first of these sums that is less than what is wanted there, None if none is."""
    for place, (had, least) in enumerate(list(zip(sums, wanted))):
        if had < least:
            return place
    return None


def check_goal(net, goal, standing):
    """Raises BadNet, NeverEnds, BadStanding or BadGoal if this cannot be asked."""
    turn_inverse(net)
    if standing is not None:
        check_standing(net, standing)
    if not isinstance(goal, dict):
        raise BadGoal("a goal is a dict from outlets to numbers")
    for outlet, many in goal.items():
        if outlet not in net.outlets or not is_number(many) or not 0 <= many <= MOST_GOAL:
            raise BadGoal(f"a goal cannot have {many!r} for {outlet!r}")


def wanted_by(net, goal):
    """What a goal tells for each outlet, ascending, 0 where it tells none."""
    return tuple([goal.get(outlet, 0) for outlet in net.outlets])


def short_of(net, goal, standing):
    """The Short of a goal, None if it can be met."""
    for outlet in sorted(goal):
        most = most_ever(net, outlet, net.start() if standing is None else standing)
        if most is not None and most < goal[outlet]:
            return Short(outlet, most)
    return None


def most_ever(net, outlet, standing):
    """The greatest number of balls that ever come out at an outlet, None if there is none.

    Some inlet brings each knot as many balls as one likes: so all drops of turns are done again and again, and
    those that are left of the fronts are done once.
    """
    most = 0
    for knot, (front, turn) in net.knots.items():
        if any([outlet in drop for drop in turn]):
            return None
        most += sum([drop.count(outlet) for drop in front[standing[knot]:]])
    return most


def judge_goal(net, goal, standing=None):
    """A Met if some balls meet the goal, from a standing on (the start, if None), otherwise a Short."""
    check_goal(net, goal, standing)
    short = short_of(net, goal, standing)
    if short is not None:
        return short
    wanted = wanted_by(net, goal)
    gains = Gains(net, standing)
    lacks = {}
    while True:
        lacking = {}
        for numbers, (_, sums) in gains.layer.items():
            place = first_below(sums, wanted)
            if place is None:
                return Met(dict(zip(net.inlets, numbers)), lacks)
            lacking[numbers] = net.outlets[place]
        lacks = lacking
        gains.add_ball()


def just_goal(net, goal, most, standing=None):
    """The fewest balls, at most so many, by which just what the goal tells comes out, None if there are none."""
    check_goal(net, goal, standing)
    if not is_number(most) or not 0 <= most <= MOST_BALLS:
        raise BadNumber("most is a number from 0 to 40")
    wanted = wanted_by(net, goal)
    gains = Gains(net, standing)
    for _ in range(most + 1):
        for numbers, (_, sums) in gains.layer.items():
            if sums == wanted:
                return dict(zip(net.inlets, numbers))
        gains.leave_out_above(wanted)
        gains.add_ball()
    return None
