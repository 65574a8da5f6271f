"""Nets that several tests use, and nets made by a seed."""

from random import Random

from ballchutes.errors import BadNet, NeverEnds, Unlike
from ballchutes.nets import Net
from tests import plain

NAMES = "abcdefghijkl"
# What is a net to none of the functions.
NO_NETS = (None, {}, {"a": ((), (("x",),))}, "net", 7, Net)


def told():
    """The net of the document's examples."""
    return Net({"a": ((), (("b",), ("x",))), "b": ((), (("a",), ("y",)))}, {"in": "a"}, ["y", "x"])


def single():
    """One knot with one drop."""
    return Net({"a": ((), (("x",),))}, {"in": "a"}, ["x"])


def fronted():
    """A net with fronts, in which not all standings in turns come back, and an outlet that only a front reaches."""
    return Net({"a": ((("x", "z"), ("b",)), (("b", "b"), ("x",), ())),
                "b": ((("a",),), (("y",), (), ("a", "y", "y", "y")))},
               {"in": "a", "left": "b"}, ["z", "y", "x"])


def gates():
    """A net of gates, in which most standings do not come back."""
    return Net({"a": ((), ((), (), ("b", "b"))), "b": ((), ((), (), ("a", "c", "x"))), "c": ((), ((), ("b",)))},
               {"in": "a"}, ["x"])


def twelve():
    """Twelve knots in a row, each with the most drops and the most targets, and the longest names."""
    knots = {}
    for at, name in enumerate(NAMES):
        long = name + "0123456789.abcd"
        behind = NAMES[at + 1] + "0123456789.abcd" if at < 11 else "out"
        knots[long] = (((behind, "out", "out", "out"),) * 12, (("out",) * 4,) * 11 + ((behind,) * 4,))
    return Net(knots, {"in": "a0123456789.abcd"}, ["out"])


def walk():
    """Twelve knots side by side, on which balls go to and fro."""
    knots = {}
    for at, name in enumerate(NAMES):
        left = NAMES[at - 1] if at > 0 else "left"
        right = NAMES[at + 1] if at < 11 else "right"
        knots[name] = ((), ((left,), (right,)))
    return Net(knots, {"in": "f"}, ["left", "right"])


def endless():
    """Nets that do not end, by what makes them go on."""
    return {
        "itself": Net({"a": ((), (("a",),))}, {"in": "a"}, []),
        "itself twice": Net({"a": ((), (("a", "a"), ()))}, {"in": "a"}, []),
        "one more out": Net({"a": ((), (("b",),)), "b": ((), (("a", "x"),))}, {"in": "a"}, ["x"]),
        "other inlet": Net({"a": ((), (("x",),)), "b": ((), (("b",),))}, {"in": "a", "on": "b"}, ["x"]),
        "behind a front": Net({"a": ((("x",), ("x",), ("x",)), (("x",), ("b",), ())),
                               "b": ((("x",), ("x",)), (("x", "c"), ("x",))), "c": ((("x",),), (("c", "c"), ()))},
                              {"in": "a"}, ["x"]),
        "growing": Net({"a": ((), (("b", "b", "b"), ("x",))), "b": ((), (("a",), ("a", "a"), ()))}, {"in": "a"}, ["x"]),
        "just as many": Net({"a": ((), ((),) + (("b",),) * 11), "b": ((), (("a", "a"),) + (("a",),) * 10)},
                            {"in": "a"}, []),
        "two rings": Net({"a": ((), (("b",), ("c",))), "b": ((), (("a",), ("a", "x"))),
                          "c": ((), (("a", "a"), ("x",)))}, {"in": "c"}, ["x"]),
    }


def made(seed, ending=True):
    """A net made by a seed, with one to four knots, that ends or does not."""
    dice = Random(seed)
    names = NAMES[:seed % 4 + 1]
    outlets = ["x", "y", "z"][:dice.randint(0, 3)]
    while True:
        knots = {name: (made_row(dice, names, outlets, 0, 2), made_row(dice, names, outlets, 1, 4)) for name in names}
        inlets = {inlet: dice.choice(names) for inlet in ["in", "on"][:dice.randint(1, 2)]}
        try:
            net = Net(knots, inlets, outlets)
        except BadNet:
            continue
        if plain.ends(net) == ending and len(plain.all_standings(net)) <= 300:
            return net


def made_row(dice, names, outlets, least, most):
    targets = list(names) + outlets
    return tuple(tuple(dice.choice(targets) for _ in range(dice.choice((0, 1, 1, 1, 2, 3))))
                 for _ in range(dice.randint(least, most)))


def made_standing(net, dice):
    return dice.choice(plain.all_standings(net))


def refuse_nets(case, calls):
    """Each of these calls, pairs of a function and what it is told behind a net, refuses nets that are none or go on."""
    for call, told in calls:
        for net in NO_NETS:
            with case.assertRaises(BadNet) as caught:
                call(net, *told)
            case.assertIsNone(caught.exception.name)
        for net in endless().values():
            with case.assertRaises(NeverEnds):
                call(net, *told)


def wrong_standings(net):
    """What is no standing of a net, of which the first knot has a place 0 and no place 99."""
    start = plain.start(net)
    first = min(start)
    return [[], 0, "start", tuple(start), list(start.items()), {}, {**start, "q": 0}, {**start, first: -1},
            {**start, first: 99}, {**start, first: False}, {**start, first: "0"}, {**start, first: None},
            {knot: 0 for knot in start if knot != first}, {"q": 0, **{knot: 0 for knot in start if knot != first}},
            {**start, first: len(net.knots[first][0]) + len(net.knots[first][1])}]


def begun(net, standing):
    """The net that begins at a standing, by its rows."""
    knots = {}
    for knot, (front, turn) in net.knots.items():
        place = standing[knot] - len(front)
        knots[knot] = (front[standing[knot]:], turn) if place < 0 else ((), turn[place:] + turn[:place])
    return Net(knots, net.inlets, net.outlets)


def refuse_pairs(case, call):
    """This call, which is told two nets, refuses those that are none, then those that go on, then unlike ones."""
    for net in NO_NETS:
        for other in (told(), endless()["itself"]):
            for pair in ((net, other), (other, net)):
                with case.assertRaises(BadNet) as caught:
                    call(*pair)
                case.assertIsNone(caught.exception.name)
    for net in endless().values():
        for pair in ((net, told()), (told(), net), (net, net), (net, walk())):
            with case.assertRaises(NeverEnds):
                call(*pair)
    one = told()
    unlike = ((Net(one.knots, {"on": "a"}, ["x", "y"]), "inlets"), (Net(one.knots, {"on": "a"}, ["x", "y", "z"]), "inlets"),
              (Net(one.knots, {"in": "a", "on": "a"}, ["x", "y"]), "inlets"),
              (Net(one.knots, {"in": "a"}, ["x", "y", "z"]), "outlets"))
    for other, what in unlike:
        for pair in ((one, other), (other, one)):
            with case.assertRaises(Unlike) as caught:
                call(*pair)
            case.assertEqual(caught.exception.what, what)
