"""Nets of knots, and what a knot lets fall."""

from ballchutes.errors import BadNet

MOST_KNOTS = 12
MOST_DROPS = 12
MOST_TARGETS = 4
MOST_SIGNS = 16
LETTERS = "abcdefghijklmnopqrstuvwxyz"
SIGNS = "abcdefghijklmnopqrstuvwxyz0123456789."


class Net:
    """A net: its knots with their rows, its inlets with the knots they lead to, its outlets."""

    def __init__(self, knots, inlets, outlets):
        check_kinds(knots, inlets, outlets)
        check_names([*knots, *outlets, *inlets])
        check_rows(knots, outlets)
        check_inlets(knots, inlets)
        check_met(knots, inlets)
        self.knots = {knot: knots[knot] for knot in sorted(knots)}
        self.inlets = {inlet: inlets[inlet] for inlet in sorted(inlets)}
        self.outlets = tuple(sorted(outlets))

    def start(self):
        """The standing in which every knot is at its first place."""
        return {knot: 0 for knot in self.knots}

    def dropped(self, name, place, many):
        """How many balls fall to each target that gets some, if a knot takes so many from a place on."""
        front, turn = self.knots[name]
        ahead = front[place:place + many]
        whole, over = divmod(many - len(ahead), len(turn))
        at = max(0, place - len(front))
        counts = {}
        add_drops(counts, ahead, 1)
        add_drops(counts, (turn + turn)[at:at + over], 1)
        if whole > 0:
            add_drops(counts, turn, whole)
        return counts

    def place_behind(self, name, place, many):
        """The place of a knot behind so many balls, from a place on."""
        front, turn = self.knots[name]
        behind = place + many
        if behind < len(front):
            return behind
        return len(front) + (behind - len(front)) % len(turn)

    def __len__(self):
        return len(self.knots)

    def __contains__(self, name):
        return name in self.knots or name in self.outlets

    def __eq__(self, other):
        return (isinstance(other, Net) and self.knots == other.knots
                and self.inlets == other.inlets and self.outlets == other.outlets)


def copy_of(net):
    """A new net that is equal to this one."""
    return Net(net.knots, net.inlets, net.outlets)


def add_drops(counts, drops, times):
    """Adds to counts what falls if each of these drops is done so many times."""
    for drop in drops:
        for target in drop:
            counts[target] = counts.get(target, 0) + times


def leaders(knots, inlets):
    """For each knot that is met the inlet or knot that leads to it first, those nearer to the inlets ahead."""
    led = {}
    for inlet in sorted(inlets):
        led.setdefault(inlets[inlet], inlet)
    near = list(led)
    while near:
        far = []
        for knot in near:
            for target in met_by_turn(knots, knot):
                if target not in led:
                    led[target] = knot
                    far.append(target)
        near = far
    return led


def met_by_turn(knots, knot):
    """The knots that stand in the drops of a knot's turn."""
    return [target for drop in knots[knot][1] for target in drop if target in knots]


def check_kinds(knots, inlets, outlets):
    """Raises BadNet if these are not dicts and a list of the sizes that a net has."""
    if not isinstance(knots, dict) or not 1 <= len(knots) <= MOST_KNOTS:
        raise BadNet(None)
    if not isinstance(inlets, dict) or not isinstance(outlets, (list, tuple)) or len(inlets) == 0:
        raise BadNet(None)


def check_names(names):
    """Raises BadNet for the first one that is no name or stands twice."""
    seen = {}
    for name in names:
        if not isinstance(name, str):
            raise BadNet(None)
        if not is_name(name) or name in seen:
            raise BadNet(name)
        seen[name] = True


def is_name(text):
    """Whether a text can be a name."""
    if not 1 <= len(text) <= MOST_SIGNS or text[0] not in LETTERS:
        return False
    return all([sign in SIGNS for sign in text])


def check_rows(knots, outlets):
    """Raises BadNet for the first knot whose rows are not as told."""
    targets = {name: True for name in [*knots, *outlets]}
    for knot in sorted(knots):
        if not are_rows(knots[knot], targets):
            raise BadNet(knot)


def are_rows(told, targets):
    """Whether this is a pair of a front and a turn with drops to these targets."""
    if not isinstance(told, tuple) or len(told) != 2:
        return False
    front, turn = told
    return is_row(front, targets) and is_row(turn, targets) and len(turn) > 0


def is_row(told, targets):
    """Whether this is a row of drops to these targets."""
    if not isinstance(told, tuple) or len(told) > MOST_DROPS:
        return False
    return all([is_drop(drop, targets) for drop in told])


def is_drop(told, targets):
    """Whether this is a drop to these targets."""
    if not isinstance(told, tuple) or len(told) > MOST_TARGETS:
        return False
    return all([isinstance(target, str) and target in targets for target in told])


def check_inlets(knots, inlets):
    """Raises BadNet for the first inlet that does not lead to a knot."""
    for inlet, knot in inlets.items():
        if not isinstance(knot, str) or knot not in knots:
            raise BadNet(inlet)


def check_met(knots, inlets):
    """Raises BadNet for the first knot that no ball from an inlet meets."""
    led = leaders(knots, inlets)
    for knot in sorted(knots):
        if knot not in led:
            raise BadNet(knot)
