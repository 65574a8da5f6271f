"""Pairs of standings that the same balls lead to, and the balls that tell them apart.

What is told of each of the two has `steps_at`, which tells, for a standing in any form, what a ball at each inlet
leads to, and its row: the Ways of a net, for numbers, and a Walk, for places.
"""


def first_apart(one, other, first, known):
    """The first list of inlets for whose last ball the rows from a pair differ, or None; and the pairs met.

    Pairs in known, from which the same is known to come, are passed over. Where rows differ, no pairs are told.
    """
    if first in known:
        return None, []
    led = {first: None}
    near = [first]
    while near:
        far = []
        for pair in near:
            steps = other.steps_at(pair[1])
            for inlet, (behind, row) in one.steps_at(pair[0]).items():
                other_behind, other_row = steps[inlet]
                if row != other_row:
                    return [*inlets_to(led, pair), inlet], []
                met = (behind, other_behind)
                if met not in led and met not in known:
                    led[met] = (pair, inlet)
                    far.append(met)
        near = far
    return None, list(led)


def inlets_to(led, pair):
    """The inlets whose balls lead to a pair, if `led` tells the pair ahead and the inlet of each but the first one."""
    inlets = []
    while led[pair] is not None:
        pair, inlet = led[pair]
        inlets.append(inlet)
    return inlets[::-1]


def stays_within(one, other, pair, told):
    """Whether a ball at any inlet brings the same out from both of a pair, and leads to a pair that is told."""
    steps = other.steps_at(pair[1])
    for inlet, (behind, row) in one.steps_at(pair[0]).items():
        other_behind, other_row = steps[inlet]
        if row != other_row or (behind, other_behind) not in told:
            return False
    return True
