"""Balls that drop through a net, step by step."""

from ballchutes.checking import is_number


class Play:
    """Balls in a net: `waits` where they wait, `out` what came out, `standing`, `taken` by each knot."""

    def __init__(self, net, balls, standing):
        self.net = net
        self.drops = {knot: front + turn for knot, (front, turn) in net.knots.items()}
        self.standing = {knot: 0 if standing is None else standing[knot] for knot in net.knots}
        self.taken = {knot: 0 for knot in net.knots}
        self.out = {outlet: 0 for outlet in net.outlets}
        self.waits = {}
        for name, many in balls.items():
            if many > 0:
                self.fall(net.inlets.get(name, name), many)

    def fall(self, target, many):
        """Lets so many balls fall to a knot or an outlet."""
        if target in self.taken:
            self.waits[target] = self.waits.get(target, 0) + many
        else:
            self.out[target] += many

    def take(self, knot, many):
        """Lets a knot take so many of the balls that wait there."""
        place = self.standing[knot]
        self.standing[knot] = self.net.place_behind(knot, place, many)
        self.taken[knot] += many
        left = self.waits[knot] - many
        del self.waits[knot]
        if left > 0:
            self.waits[knot] = left
        # One ball is by far the commonest case, and needs no counting of whole turns.
        if many == 1:
            for target in self.drops[knot][place]:
                self.fall(target, 1)
        else:
            for target, number in self.net.dropped(knot, place, many).items():
                self.fall(target, number)

    def rest(self):
        """Lets knots take all that waits until no ball does; returns the order in which they do."""
        order = []
        while self.waits:
            for knot in list(self.waits):
                many = self.waits[knot]
                self.take(knot, many)
                order.append((knot, many))
        return order

    def can_take(self, step):
        """Whether this is a step of an order, and so many balls wait there."""
        if not isinstance(step, tuple) or len(step) != 2:
            return False
        knot, many = step
        return isinstance(knot, str) and is_number(many) and 1 <= many <= self.waits.get(knot, 0)

    def follow(self, order):
        """Does the steps of an order; returns the place of the first one that cannot be done, or None."""
        for place, step in enumerate(order):
            if not self.can_take(step):
                return place
            knot, many = step
            self.take(knot, many)
        return None
