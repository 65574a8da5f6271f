"""Balls that come in one at a time, with room for only so many that wait at each knot.

A step is told by a name: that of an inlet, at which a ball comes in, or that of a knot, which takes one. How often
each has done its step, the inlets first, tells all that is so behind any steps: these are the counts.
"""

from ballchutes.checking import are_balls, is_number
from ballchutes.errors import BadBalls, BadNumber
from ballchutes.pairing import inlets_to
from ballchutes.turning import turn_inverse

MOST_ROOM = 9


class Fits:
    """Evidence that balls fit into a room: steps that bring all of them in, and behind which none waits."""

    def __init__(self, steps):
        self.steps = list(steps)

    def shows(self, net, balls, room):
        """Whether these steps can be done one by one with this room, and are all that is to be done."""
        check_room(net, balls, room)
        hall = Hall(net, balls, room)
        counts = hall.first
        waits = hall.waits_behind(counts)
        for name in self.steps:
            behind = hall.step_behind(counts, waits, name)
            if behind is None:
                return False
            counts, waits = behind
        return is_end(waits)

    def __bool__(self):
        return True

    def __eq__(self, other):
        return isinstance(other, Fits) and self.steps == other.steps


class Jams:
    """Evidence that balls do not fit into a room: counts out of which no step leads, and none of which is the end."""

    def __init__(self, counts):
        self.counts = list(counts)

    def shows(self, net, balls, room):
        """Whether these counts are as described for balls and a room."""
        check_room(net, balls, room)
        hall = Hall(net, balls, room)
        told = {counts: True for counts in self.counts}
        return hall.first in told and all([hall.leads_within(counts, told) for counts in told])

    def __bool__(self):
        return False

    def __eq__(self, other):
        return isinstance(other, Jams) and self.counts == other.counts


class Hall:
    """A net with balls that are to come in, and a room.

    What waits is told by a dict: for each inlet what is to come in there, and for each knot what waits there.
    """

    def __init__(self, net, balls, room):
        self.net = net
        self.room = room
        self.names = [*net.inlets, *net.knots]
        self.balls = {inlet: balls.get(inlet, 0) for inlet in net.inlets}
        self.first = (0,) * len(self.names)

    def falls(self, name, done, many):
        """How many balls come to each target by so many steps of a name, behind those that it has done."""
        if name in self.net.inlets:
            return {self.net.inlets[name]: many}
        return self.net.dropped(name, self.net.place_behind(name, 0, done), many)

    def waits_behind(self, counts):
        """What waits behind these counts; less than 0 where more was taken than came."""
        waits = {**self.balls, **{knot: 0 for knot in self.net.knots}}
        for name, many in zip(self.names, counts):
            waits[name] -= many
            for target, number in self.falls(name, 0, many).items():
                if target in waits:
                    waits[target] += number
        return waits

    def step_behind(self, counts, waits, name):
        """The counts and what waits behind one more step, None if it cannot be done with this room."""
        if waits.get(name, 0) == 0:
            return None
        at = self.names.index(name)
        behind = {**waits, name: waits[name] - 1}
        for target, number in self.falls(name, counts[at], 1).items():
            if target in behind:
                behind[target] += number
        if max([behind[knot] for knot in self.net.knots]) > self.room:
            return None
        return counts[:at] + (counts[at] + 1,) + counts[at + 1:], behind

    def leads_within(self, counts, told):
        """Whether these can be counts, are not the end, and lead by each step to some that are told."""
        if len(counts) != len(self.names) or min(counts) < 0:
            return False
        waits = self.waits_behind(counts)
        if min(list(waits.values())) < 0 or is_end(waits):
            return False
        steps = [self.step_behind(counts, waits, name) for name in self.names]
        return all([step is None or step[0] in told for step in steps])


def is_end(waits):
    """Whether no ball is to come in, and none waits."""
    return all([many == 0 for many in waits.values()])


def check_room(net, balls, room):
    """Raises BadNet, NeverEnds, BadBalls or BadNumber if this cannot be asked."""
    turn_inverse(net)
    if not are_balls(balls, net.inlets):
        raise BadBalls("balls are a dict from inlets to numbers from 0")
    if not is_number(room) or not 1 <= room <= MOST_ROOM:
        raise BadNumber("a room is a number from 1 to 9")


def judge_room(net, balls, room):
    """A Fits if these balls can come in with this room, and be settled, otherwise a Jams."""
    check_room(net, balls, room)
    hall = Hall(net, balls, room)
    led = {hall.first: None}
    near = [(hall.first, hall.waits_behind(hall.first))]
    while near:
        far = []
        for counts, waits in near:
            if is_end(waits):
                return Fits(inlets_to(led, counts))
            for name in hall.names:
                behind = hall.step_behind(counts, waits, name)
                if behind is not None and behind[0] not in led:
                    led[behind[0]] = (counts, name)
                    far.append(behind)
        near = far
    return Jams(list(led))


def least_room(net, balls):
    """The least room with which these balls fit, None if they do not with any."""
    for room in range(1, MOST_ROOM + 1):
        if judge_room(net, balls, room):
            return room
    return None
