"""Nets in which one target is changed, so that they do what another net does; and starts from which they do."""

from ballchutes.alikes import check_both, judge_alike
from ballchutes.checking import are_balls, check_net, is_number
from ballchutes.ending import ends
from ballchutes.errors import BadChange, BadNet
from ballchutes.nets import Net
from ballchutes.pairing import first_apart
from ballchutes.settling import settle
from ballchutes.walking import Walk, places_of, standing_at


class Mend:
    """Evidence that a net can be mended: a change by which it ends and is alike another one."""

    def __init__(self, change):
        self.change = change

    def shows(self, net, goal):
        """Whether this change, be it the first one or not, makes the net one that ends and is alike the goal."""
        check_both(net, goal)
        if not is_change(net, self.change):
            return False
        other = ending_net(net, self.change)
        return other is not None and bool(judge_alike(other, goal))

    def __bool__(self):
        return True

    def __eq__(self, other):
        return isinstance(other, Mend) and self.change == other.change


class NoMend:
    """Evidence that no change mends a net: for each one, by which it ends, balls that tell it from the goal."""

    def __init__(self, told):
        self.told = {change: dict(told[change]) for change in told}

    def shows(self, net, goal):
        """Whether these are all changes by which the net ends, and balls that tell what comes of it from the goal."""
        check_both(net, goal)
        nets = ending_nets(net)
        if len(self.told) != len(nets) or not all([change in nets for change in self.told]):
            return False
        return all([are_unlike(nets[change], goal, balls) for change, balls in self.told.items()])

    def __bool__(self):
        return False

    def __eq__(self, other):
        return isinstance(other, NoMend) and self.told == other.told


def is_change(net, told):
    """Whether this is a change of the net."""
    if not isinstance(told, tuple) or len(told) != 4:
        return False
    knot, number, at, name = told
    if not isinstance(knot, str) or knot not in net.knots or not isinstance(name, str) or name not in net:
        return False
    front, turn = net.knots[knot]
    drop = item_at(front + turn, number)
    target = None if drop is None else item_at(drop, at)
    return target is not None and target != name


def item_at(row, place):
    """What stands at this place of a row, None if this is none of its places."""
    if not is_number(place) or not 0 <= place < len(row):
        return None
    return row[place]


def changes_of(net):
    """All changes of a net, ascending."""
    names = sorted([*net.knots, *net.outlets])
    found = []
    for knot, (front, turn) in net.knots.items():
        for number, drop in enumerate(front + turn):
            for at, target in enumerate(drop):
                found.extend([(knot, number, at, name) for name in names if name != target])
    return found


def changed(net, change):
    """The net with this change."""
    check_net(net)
    if not is_change(net, change):
        raise BadChange("a change is a knot, numbers of a drop and of a target in it, and another target")
    knot, number, at, name = change
    front, turn = net.knots[knot]
    drops = list(front + turn)
    drops[number] = drops[number][:at] + (name,) + drops[number][at + 1:]
    rows = (tuple(drops[:len(front)]), tuple(drops[len(front):]))
    return Net({**net.knots, knot: rows}, net.inlets, net.outlets)


def ending_net(net, change):
    """The net with this change, None if it is no net or does not end."""
    try:
        other = changed(net, change)
    except BadNet:
        return None
    return other if ends(other) else None


def ending_nets(net):
    """For all changes of a net, ascending, by which it ends, the net with this change."""
    nets = {change: ending_net(net, change) for change in changes_of(net)}
    return {change: other for change, other in nets.items() if other is not None}


def are_unlike(one, other, told):
    """Whether these are balls at all inlets for which unlike numbers come out of two nets."""
    if sorted(told) != list(one.inlets) or not are_balls(told, one.inlets):
        return False
    return settle(one, told).out != settle(other, told).out


def judge_change(net, goal):
    """The Mend of the first change by which the net ends and is alike the goal, or a NoMend."""
    check_both(net, goal)
    walk = Walk(goal)
    told = {}
    for change, other in ending_nets(net).items():
        inlets = inlets_apart(Walk(other), places_of(other, other.start()), walk)
        if inlets is None:
            return Mend(change)
        told[change] = {inlet: inlets.count(inlet) for inlet in net.inlets}
    return NoMend(told)


def inlets_apart(one, places, other):
    """The first list of inlets whose last ball brings unlike rows, from places on and from the start of another net."""
    inlets, _ = first_apart(one, other, (places, places_of(other.net, other.net.start())), {})
    return inlets


def begun_like(net, goal):
    """The first standing of the net from which it is alike the goal, None if there is none."""
    check_both(net, goal)
    one, other = Walk(net), Walk(goal)
    for places in sorted(all_places(net), key=start_first):
        if inlets_apart(one, places, other) is None:
            return standing_at(net, places)
    return None


def all_places(net):
    """The places of all standings of a net."""
    found = [()]
    for front, turn in net.knots.values():
        found = [(*places, place) for places in found for place in range(len(front) + len(turn))]
    return found


def start_first(places):
    """What those with more knots at their first place are ahead by, then lesser ones."""
    return len([place for place in places if place != 0]), places
