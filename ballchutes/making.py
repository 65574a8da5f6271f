"""Nets of wheels, made so that outlets get told shares."""

from math import gcd

from ballchutes.checking import check_net, is_number
from ballchutes.ending import ends
from ballchutes.errors import BadShares
from ballchutes.nets import Net, copy_of, is_name
from ballchutes.ratios import fraction
from ballchutes.shares import share_of

INLET = "in"
FIRST_WHEEL = "w"


class Made:
    """A net of wheels alone whose outlets get told shares."""

    def __init__(self, net):
        # What is no net is refused when it is asked for.
        self.net = copy_of(net) if isinstance(net, Net) else net

    def shows(self, shares, ways):
        """Whether the net is one of wheels with so many ways, for these shares."""
        check_net(self.net)
        check_shares(shares, ways)
        if list(self.net.inlets) != [INLET] or list(self.net.outlets) != sorted(shares):
            return False
        if not all([is_wheel(rows, ways) for rows in self.net.knots.values()]):
            return False
        total = sum(list(shares.values()))
        return ends(self.net) and all([share_of(self.net, INLET, name) == fraction(number, total)
                                       for name, number in shares.items()])

    def __eq__(self, other):
        return isinstance(other, Made) and self.net == other.net


def is_wheel(rows, ways):
    """Whether a knot with these rows is a wheel with so many ways."""
    front, turn = rows
    return len(front) == 0 and len(turn) == ways and all([len(drop) == 1 for drop in turn])


def check_shares(shares, ways):
    """Raises BadShares if these are no shares, or no number of ways."""
    if not isinstance(shares, dict) or not 1 <= len(shares) <= 3:
        raise BadShares("shares are a dict from 1 to 3 names to integers")
    for name, number in shares.items():
        if not isinstance(name, str) or not is_name(name) or name == INLET or name.startswith(FIRST_WHEEL):
            raise BadShares(f"a share cannot have the name {name!r}")
        if not is_number(number) or number < 1:
            raise BadShares(f"the share of {name} is no integer from 1 on")
    if sum(list(without_divisor(shares).values())) > (16 if len(shares) == 3 else 64):
        raise BadShares("the sum of the shares is too large")
    if not is_number(ways) or not 2 <= ways <= 4:
        raise BadShares("a wheel has 2 to 4 ways")


def without_divisor(shares):
    """The shares without their common divisor, ascending."""
    common = 0
    for number in shares.values():
        common = gcd(common, number)
    return {name: shares[name] // common for name in sorted(shares)}


def least_wheels(shares, ways):
    """The least number of wheels that a net for these shares can have."""
    check_shares(shares, ways)
    total = sum(list(without_divisor(shares).values()))
    wheels, leads = 1, ways
    while leads < total:
        wheels, leads = wheels + 1, leads * ways
    return wheels


def made(shares, ways):
    """A net of wheels with so many ways, at most 12, for these shares."""
    levels = least_wheels(shares, ways)
    targets = []
    for name, number in without_divisor(shares).items():
        targets.extend([name] * number)
    size = 1
    for _ in range(levels):
        size *= ways
    # The wheels are a tree with a target at each end; balls for whose end there is no name left begin once more.
    targets.extend([FIRST_WHEEL] * (size - len(targets)))
    knots = {}
    while len(targets) > ways:
        nearer = []
        for at in range(0, len(targets), ways):
            nearer.append(target_for(knots, targets[at:at + ways]))
        targets = nearer
    knots[FIRST_WHEEL] = wheel_of(targets)
    return Made(Net(knots, {INLET: FIRST_WHEEL}, list(shares)))


def wheel_of(targets):
    """The front and the turn of a wheel."""
    return (), tuple([(target,) for target in targets])


def target_for(knots, targets):
    """What balls go to instead of these targets by turns: the one target that they all are, or a wheel.

    Targets of one name stand together, so that few wheels are needed: in each level just those between two names.
    """
    if targets == targets[:1] * len(targets):
        return targets[0]
    name = f"{FIRST_WHEEL}{len(knots) + 1}"
    knots[name] = wheel_of(targets)
    return name
