"""A plain model of nets, slow and without any of the package's ways: one ball at a time, and counting.

It reads only `knots`, `inlets` and `outlets` of a net.
"""

from fractions import Fraction
from itertools import product


def start(net):
    return {knot: 0 for knot in net.knots}


def next_place(net, knot, place):
    front, turn = net.knots[knot]
    return place + 1 if place + 1 < len(front) + len(turn) else len(front)


def drop_at(net, knot, place):
    front, turn = net.knots[knot]
    return (list(front) + list(turn))[place]


def rest(net, balls, standing, choose=min):
    """Lets one ball after the other drop, `choose` says where; returns taken, out and standing."""
    waits = {knot: 0 for knot in net.knots}
    for name, many in balls.items():
        waits[net.inlets.get(name, name)] += many
    taken = {knot: 0 for knot in net.knots}
    out = {outlet: 0 for outlet in net.outlets}
    standing = dict(standing)
    while any(waits.values()):
        knot = choose([knot for knot in waits if waits[knot]])
        waits[knot] -= 1
        taken[knot] += 1
        for target in drop_at(net, knot, standing[knot]):
            if target in waits:
                waits[target] += 1
            else:
                out[target] += 1
        standing[knot] = next_place(net, knot, standing[knot])
    return taken, out, standing


def behind(net, balls, standing):
    return rest(net, balls, standing)[2]


def row_behind(net, name, standing):
    """The row of one ball at a knot or inlet, and the standing behind it."""
    _, out, standing = rest(net, {name: 1}, standing)
    return tuple(out[outlet] for outlet in sorted(net.outlets)), standing


def all_standings(net):
    knots = sorted(net.knots)
    ranges = [range(len(net.knots[knot][0]) + len(net.knots[knot][1])) for knot in knots]
    return [dict(zip(knots, places)) for places in product(*ranges)]


def key(standing):
    return tuple(sorted(standing.items()))


def times_back(net, name, standing):
    """How many balls at a knot or inlet, from 1 on, lead a standing to itself; None if none do."""
    now, seen = standing, set()
    for many in range(1, 100000):
        now = behind(net, {name: 1}, now)
        if now == standing:
            return many
        if key(now) in seen:
            return None
        seen.add(key(now))
    raise AssertionError("too many balls")


def comes_back(net, standing):
    return all(times_back(net, knot, standing) is not None for knot in net.knots)


def standings_back(net):
    return [standing for standing in all_standings(net) if comes_back(net, standing)]


def even_many(net, back):
    """The least number of balls, as many at each knot, that lead each of these standings to itself."""
    now, many = list(back), 0
    while many == 0 or now != back:
        now = [behind(net, {knot: 1 for knot in net.knots}, standing) for standing in now]
        many += 1
    return many


def ratios(net):
    """How many balls fall to a knot for each ball that a knot takes, in the long run."""
    return {(one, other): Fraction(sum(drop.count(other) for drop in net.knots[one][1]), len(net.knots[one][1]))
            for one in net.knots for other in net.knots}


def solved(net, right):
    """What solves: each knot's number is what stands at the right, and what its balls bring; None if nothing."""
    knots = sorted(net.knots)
    falls = ratios(net)
    rows = [[Fraction(one == other) - falls[one, other] for other in knots] + [Fraction(right[one])]
            for one in knots]
    for at in range(len(rows)):
        lead = next((row for row in rows[at:] if row[at] != 0), None)
        if lead is None:
            return None
        rows.remove(lead)
        rows.insert(at, [part / lead[at] for part in lead])
        for other in range(len(rows)):
            if other != at:
                rows[other] = [one - rows[other][at] * two for one, two in zip(rows[other], rows[at])]
    return {knot: row[-1] for knot, row in zip(knots, rows)}


def ends(net):
    """A net ends just if weights above 0 are, at each knot, 1 more than those that its balls bring."""
    weights = solved(net, {knot: 1 for knot in net.knots})
    return weights is not None and all(weight > 0 for weight in weights.values())


def worths(net, outlet):
    right = {knot: Fraction(sum(drop.count(outlet) for drop in turn), len(turn))
             for knot, (_, turn) in net.knots.items()}
    return solved(net, right)


def reached(net, standing):
    """The standings to which lists of inlets lead, in the order of these lists, all of which are tried."""
    found, longest = [standing], 0
    layer = {(): standing}
    while layer:
        longest += 1
        wider = {}
        for inlets in product(sorted(net.inlets), repeat=longest):
            before = layer.get(inlets[:-1])
            if before is not None:
                _, behind_it = row_behind(net, inlets[-1], before)
                # Lists that begin with one that leads nowhere new lead nowhere new either.
                if behind_it not in found:
                    found.append(behind_it)
                    wider[inlets] = behind_it
        layer = wider
    return found


def out_of(net, inlets, standing):
    """The rows of balls at these inlets, one by one."""
    rows = []
    for inlet in inlets:
        row, standing = row_behind(net, inlet, standing)
        rows.append(row)
    return rows


def parting(one, other, longest, first=None, second=None):
    """The first list of inlets by whose last ball unlike numbers come out of two nets, None if none is so long."""
    starts = (first or start(one), second or start(other))
    for length in range(1, longest + 1):
        for inlets in product(sorted(one.inlets), repeat=length):
            if out_of(one, inlets, starts[0])[-1] != out_of(other, inlets, starts[1])[-1]:
                return list(inlets)
    return None


def fewest_telling(one, other, most):
    """The least number of balls in all for which unlike numbers come out of two nets, None if none up to most is."""
    names = sorted(one.inlets)
    for total in range(1, most + 1):
        for numbers in product(range(total + 1), repeat=len(names)):
            balls = dict(zip(names, numbers))
            if sum(numbers) == total and rest(one, balls, start(one))[1] != rest(other, balls, start(other))[1]:
                return total
    return None


def numbers_in_all(names, total):
    """All tuples of numbers from 0, one for each name, with this sum, ascending."""
    return [numbers for numbers in product(range(total + 1), repeat=len(names)) if sum(numbers) == total]


def out_by(net, numbers, standing):
    """What comes out by these numbers of balls at the inlets, ascending."""
    return rest(net, dict(zip(sorted(net.inlets), numbers)), standing)[1]


def same_for_ever(one, other, first, second):
    """Whether the same comes out of two nets, from a standing of each, by all balls at inlets."""
    met, near = set(), [(first, second)]
    while near:
        pair = near.pop()
        for inlet in one.inlets:
            row, behind_it = row_behind(one, inlet, pair[0])
            other_row, other_behind = row_behind(other, inlet, pair[1])
            if row != other_row:
                return False
            if (key(behind_it), key(other_behind)) not in met:
                met.add((key(behind_it), key(other_behind)))
                near.append((behind_it, other_behind))
    return True


def led_to(net, names, standing):
    """For all standings to which balls at these names lead, by keys, the standing and the least number of balls."""
    found, near, many = {key(standing): (standing, 0)}, [standing], 0
    while near:
        many += 1
        far = []
        for now in near:
            for name in names:
                then = behind(net, {name: 1}, now)
                if key(then) not in found:
                    found[key(then)] = (then, many)
                    far.append(then)
        near = far
    return found


def drops_from(net, knot, place, many):
    """The drops that a knot does from a place on, so many."""
    drops = []
    for _ in range(many):
        drops.append(drop_at(net, knot, place))
        place = next_place(net, knot, place)
    return drops
