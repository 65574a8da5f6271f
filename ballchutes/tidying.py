"""Knots whose rows are as short as can be for the drops that they do, one by one."""

from ballchutes.checking import check_net, check_standing
from ballchutes.nets import Net
from ballchutes.repeating import shortest_rows


def is_tidy(net):
    """Whether the rows of all knots are tidy."""
    return tidied(net) == net


def tidied(net):
    """The net whose knots do the same drops, for ever, by tidy rows."""
    check_net(net)
    knots = {knot: shortest_rows(front, turn) for knot, (front, turn) in net.knots.items()}
    return Net(knots, net.inlets, net.outlets)


def tidied_standing(net, standing):
    """The standing of the tidied net from which each knot goes on with the same drops as from this one."""
    tidy = tidied(net)
    check_standing(net, standing)
    # No two places of tidy rows go on with the same drops; so these are the only ones, and the least.
    return {knot: tidy.place_behind(knot, 0, standing[knot]) for knot in net.knots}


def alike_places(net):
    """For each knot the lists of those of its places from which it goes on with the same drops."""
    tidy = tidied(net)
    found = {}
    for knot, (front, turn) in net.knots.items():
        alike = {}
        for place in range(len(front) + len(turn)):
            alike.setdefault(tidy.place_behind(knot, 0, place), []).append(place)
        found[knot] = list(alike.values())
    return found
