"""Sets of knots, as ascending tuples."""


def wider_sets(net, sets):
    """These ascending sets, each with one more knot behind its last one."""
    return [(*names, knot) for names in sets for knot in net.knots if len(names) == 0 or knot > names[-1]]


def parts_less_one(names):
    """The sets that are left without one of these names."""
    return [names[:at] + names[at + 1:] for at in range(len(names))]


def sets_with_one_more(net, names):
    """The ascending sets of these knots and one more."""
    return [tuple(sorted([*names, knot])) for knot in net.knots if knot not in names]
