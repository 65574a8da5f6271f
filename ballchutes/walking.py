"""Balls that come to inlets one by one, each one when all others rest.

A standing is told here by its places, a tuple in the order of the knots, by which it can be looked up.
"""

from ballchutes.playing import Play


def places_of(net, standing):
    """The places of a standing."""
    return tuple([standing[knot] for knot in net.knots])


def standing_at(net, places):
    """The standing with these places."""
    return dict(zip(net.knots, places))


class Walk:
    """What a ball at each inlet does from standings of a net, worked out once for each of them."""

    def __init__(self, net):
        self.net = net
        self.known = {}

    def steps_at(self, places):
        """For each inlet the places behind a ball there, and its row."""
        if places not in self.known:
            self.known[places] = {inlet: self.step(places, inlet) for inlet in self.net.inlets}
        return self.known[places]

    def step(self, places, inlet):
        """The places behind a ball at an inlet, and its row."""
        play = Play(self.net, {inlet: 1}, standing_at(self.net, places))
        play.rest()
        return tuple(play.standing.values()), tuple(play.out.values())
