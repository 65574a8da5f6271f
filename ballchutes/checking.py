"""What functions ask of their arguments: nets, numbers, standings, balls, names."""

from ballchutes.errors import BadBalls, BadNet, BadStanding, NoPart
from ballchutes.nets import Net


def is_number(told):
    """Whether this is an integer; booleans are none."""
    return isinstance(told, int) and not isinstance(told, bool)


def check_net(net):
    """Raises BadNet if this is no net."""
    if not isinstance(net, Net):
        raise BadNet(None)


def is_standing(net, told):
    """Whether this is a dict of all knots of the net, and no others, to places of theirs."""
    if not isinstance(told, dict) or len(told) != len(net):
        return False
    for knot, (front, turn) in net.knots.items():
        place = told.get(knot)
        if not is_number(place) or not 0 <= place < len(front) + len(turn):
            return False
    return True


def check_standing(net, standing):
    """Raises BadStanding if this is no standing of the net."""
    if not is_standing(net, standing):
        raise BadStanding("a standing is a dict of all knots of the net to places of theirs")


def are_balls(balls, names):
    """Whether this is a dict from some of these names to numbers from 0."""
    if not isinstance(balls, dict):
        return False
    return all([name in names and is_number(many) and many >= 0 for name, many in balls.items()])


def check_balls(net, balls):
    """Raises BadBalls if this is no dict from inlets and knots to numbers from 0."""
    if not are_balls(balls, [*net.inlets, *net.knots]):
        raise BadBalls("balls are a dict from inlets and knots to numbers from 0")


def check_balls_from(net, balls, standing):
    """Raises BadBalls, then BadStanding, for balls that come in from a standing on, None being the start."""
    check_balls(net, balls)
    if standing is not None:
        check_standing(net, standing)


def knot_of(net, name):
    """The knot of this name, or that of the inlet of this name; NoPart if it is neither."""
    if isinstance(name, str) and name in net.knots:
        return name
    if isinstance(name, str) and name in net.inlets:
        return net.inlets[name]
    raise NoPart(name)


def check_outlet(net, outlet):
    """Raises NoPart if this is no outlet of the net."""
    if outlet not in net.outlets:
        raise NoPart(outlet)
