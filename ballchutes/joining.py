"""Nets from nets: begun elsewhere, with other names, two joined, and without knots that do nothing."""

from ballchutes.checking import check_net, check_standing
from ballchutes.errors import BadNet, NoPart
from ballchutes.nets import Net


def begun_at(net, standing):
    """The net whose start does what this one does from a standing on."""
    check_net(net)
    check_standing(net, standing)
    knots = {knot: rows_from_place(rows, standing[knot]) for knot, rows in net.knots.items()}
    return Net(knots, net.inlets, net.outlets)


def rows_from_place(rows, place):
    """The front and the turn of a knot that begins at a place of these rows."""
    front, turn = rows
    if place < len(front):
        return front[place:], turn
    at = place - len(front)
    return (), turn[at:] + turn[:at]


def rows_led(rows, links):
    """The front and the turn of a knot whose balls fall to other targets, where links tells them."""
    front, turn = rows
    return row_led(front, links), row_led(turn, links)


def row_led(row, links):
    """A row whose balls fall to other targets, where links tells them."""
    return tuple([tuple([links.get(target, target) for target in drop]) for drop in row])


def renamed(net, names):
    """The net with other names."""
    check_net(net)
    for name in names:
        if name not in net and name not in net.inlets:
            raise NoPart(name)
    # What is no text is no name of any kind, and need not be fit for a dict.
    written = {name: new if isinstance(new, str) else None for name, new in names.items()}
    check_none_twice([written.get(knot, knot) for knot in net.knots])
    check_none_twice([written.get(inlet, inlet) for inlet in net.inlets])
    knots = {written.get(knot, knot): rows_led(rows, written) for knot, rows in net.knots.items()}
    inlets = {written.get(inlet, inlet): written.get(knot, knot) for inlet, knot in net.inlets.items()}
    return Net(knots, inlets, [written.get(outlet, outlet) for outlet in net.outlets])


def check_none_twice(names):
    """Raises BadNet for the first one of these that is a text and stands twice."""
    seen = {}
    for name in names:
        if name is not None and name in seen:
            raise BadNet(name)
        seen[name] = True


def joined(one, other, links):
    """The net of two, in which what goes to outlets of the first one goes on to inlets of the second one."""
    check_net(one)
    check_net(other)
    for outlet, inlet in links.items():
        if outlet not in one.outlets:
            raise NoPart(outlet)
        if not isinstance(inlet, str) or inlet not in other.inlets:
            raise NoPart(inlet)
    stay = {inlet: knot for inlet, knot in other.inlets.items() if inlet not in list(links.values())}
    for name in other.knots:
        if name in one.knots:
            raise BadNet(name)
    for name in stay:
        if name in one.inlets:
            raise BadNet(name)
    leads = {outlet: other.inlets[inlet] for outlet, inlet in links.items()}
    knots = {knot: rows_led(rows, leads) for knot, rows in one.knots.items()}
    outlets = [outlet for outlet in one.outlets if outlet not in leads]
    outlets = outlets + [outlet for outlet in other.outlets if outlet not in outlets]
    return Net({**knots, **other.knots}, {**one.inlets, **stay}, outlets)


def straight(net):
    """A net that is alike, without the knots that let each ball fall to one same target, where this can be."""
    check_net(net)
    knots, inlets = net.knots, net.inlets
    knot = idle_knot(knots, inlets)
    while knot is not None:
        links = {knot: only_target(knots[knot])}
        # A knot whose balls fell to this one by turns, or on to the same target, may be left out next.
        knots = {name: rows_led(rows, links) for name, rows in knots.items() if name != knot}
        inlets = {name: links.get(led, led) for name, led in inlets.items()}
        knot = idle_knot(knots, inlets)
    return Net(knots, inlets, net.outlets)


def idle_knot(knots, inlets):
    """The first knot that can be left out as all its balls fall to one same target, None if there is none."""
    for knot, rows in knots.items():
        target = only_target(rows)
        if target is not None and target != knot and (target in knots or knot not in list(inlets.values())):
            return knot
    return None


def only_target(rows):
    """The one target to which each ball falls, alone, by these rows, None if there is none."""
    front, turn = rows
    first = turn[0]
    if len(first) == 1 and all([drop == first for drop in front + turn]):
        return first[0]
    return None
