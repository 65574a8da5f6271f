"""All standings that balls at inlets lead to, one by one, and what comes out on the way."""

from ballchutes.checking import check_standing
from ballchutes.pairing import first_apart
from ballchutes.turning import turn_inverse
from ballchutes.walking import Walk, places_of, standing_at


class Ways:
    """The standings that are reached, and for each of them what a ball at each inlet leads to, and its row."""

    def __init__(self, standings, steps):
        self.standings = [dict(standing) for standing in standings]
        self.steps = [dict(step) for step in steps]

    def steps_at(self, number):
        """For each inlet the number of the standing behind a ball there, from the one of a number, and its row."""
        return self.steps[number]

    def follow(self, rows, number=0):
        """The number of the standing behind balls at these inlets, from one on, and the sums of their rows."""
        _, first = list(self.steps[number].values())[0]
        sums = [0 for _ in first]
        for inlet in rows:
            number, row = self.steps[number][inlet]
            sums = [had + more for had, more in zip(sums, row)]
        return number, tuple(sums)

    def shows(self, net, standing=None):
        """Whether these are the ways of the net, from a standing on (the start, if None)."""
        return self == ways(net, standing)

    def __len__(self):
        return len(self.standings)

    def __eq__(self, other):
        return isinstance(other, Ways) and self.standings == other.standings and self.steps == other.steps


def ways(net, standing=None):
    """The Ways of a net, from a standing on (the start, if None)."""
    turn_inverse(net)
    if standing is not None:
        check_standing(net, standing)
    walk = Walk(net)
    met = [places_of(net, net.start() if standing is None else standing)]
    numbers = {met[0]: 0}
    steps = []
    # Inlets ascend, so what is met first is met by the first list of inlets.
    while len(steps) < len(met):
        step = {}
        for inlet, (behind, row) in walk.steps_at(met[len(steps)]).items():
            if behind not in numbers:
                numbers[behind] = len(met)
                met.append(behind)
            step[inlet] = (numbers[behind], row)
        steps.append(step)
    return Ways([standing_at(net, places) for places in met], steps)


def classes_of(ways):
    """For each standing the number of its class, those from which the same rows come for all balls."""
    classes = numbered([tuple([step[inlet][1] for inlet in sorted(step)]) for step in ways.steps])
    leads = [[step[inlet][0] for inlet in sorted(step)] for step in ways.steps]
    while True:
        finer = numbered([tuple([classes[number]] + [classes[behind] for behind in leads[number]])
                          for number in range(len(leads))])
        if finer == classes:
            return classes
        classes = finer


def numbered(told):
    """For each of these its number, if equal ones have the same one, from 0 as they first come."""
    numbers = {}
    for one in told:
        numbers.setdefault(one, len(numbers))
    return [numbers[one] for one in told]


def told_apart(ways, one, other):
    """The first list of inlets for whose last ball the rows from two standings differ, None if there is none."""
    inlets, _ = first_apart(ways, ways, (one, other), {})
    return inlets
