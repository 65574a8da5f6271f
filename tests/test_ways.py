"""Ways ([11])."""

import unittest
from itertools import product
from random import Random

from ballchutes.errors import BadStanding
from ballchutes.nets import Net
from ballchutes.ways import Ways, classes_of, told_apart, ways
from tests import plain, samples


def small(seed):
    """A net made by a seed in which few standings are reached, and a standing of it."""
    while True:
        net, dice = samples.made(seed), Random(seed)
        standing = samples.made_standing(net, dice)
        if len(plain.reached(net, standing)) <= 40:
            return net, standing
        seed += 1000


def two():
    """A net with two inlets, in which the knot behind the one does not matter."""
    return Net({"a": ((("x",),), (("y",), ("b",))), "b": ((), (("x",), ("x",)))}, {"on": "b", "in": "a"}, ["y", "x"])


class Reaching(unittest.TestCase):
    """[11] Standings that are reached, in their order, and what comes out on the way."""

    def test_one_inlet(self):
        found = ways(samples.told())
        self.assertEqual(found.standings, [{"a": 0, "b": 0}, {"a": 0, "b": 1}, {"a": 1, "b": 0}])
        self.assertEqual(found.steps, [{"in": (1, (1, 0))}, {"in": (2, (0, 1))}, {"in": (0, (1, 0))}])

    def test_two_inlets(self):
        found = ways(two())
        self.assertEqual(found.standings, [{"a": 0, "b": 0}, {"a": 1, "b": 0}, {"a": 0, "b": 1}, {"a": 2, "b": 0},
                                           {"a": 1, "b": 1}, {"a": 2, "b": 1}])
        self.assertEqual(found.steps, [{"in": (1, (1, 0)), "on": (2, (1, 0))}, {"in": (3, (0, 1)), "on": (4, (1, 0))},
                                       {"in": (4, (1, 0)), "on": (0, (1, 0))}, {"in": (4, (1, 0)), "on": (5, (1, 0))},
                                       {"in": (5, (0, 1)), "on": (1, (1, 0))}, {"in": (1, (1, 0)), "on": (3, (1, 0))}])
        self.assertEqual([list(step) for step in found.steps], [["in", "on"]] * 6)

    def test_one_by_one(self):
        for seed in range(60):
            net, standing = small(seed)
            for first in (None, standing):
                found = ways(net, first)
                self.assertEqual(found.standings, plain.reached(net, first or plain.start(net)))
                for number, step in enumerate(found.steps):
                    self.assertEqual(list(step), sorted(net.inlets))
                    for inlet, (behind, row) in step.items():
                        self.assertEqual((row, found.standings[behind]),
                                         plain.row_behind(net, inlet, found.standings[number]))
                self.assertEqual((len(found), len(found.steps)), (len(found.standings),) * 2)
                self.assertIs(found.shows(net, first), True)

    def test_one_standing_alone(self):
        found = ways(samples.single())
        self.assertEqual((found, len(found)), (Ways([{"a": 0}], [{"in": (0, (1,))}]), 1))
        net = Net({"a": ((), ((),)), "b": ((), ((), ()))}, {"in": "a", "on": "b"}, [])
        self.assertEqual(ways(net, {"b": 1, "a": 0}).steps, [{"in": (0, ()), "on": (1, ())}, {"in": (1, ()), "on": (0, ())}])

    def test_a_front_is_left_behind(self):
        net = Net({"a": ((("x",),) * 12, (("x",), ()))}, {"in": "a"}, ["x"])
        self.assertEqual(len(ways(net)), 14)
        self.assertEqual([len(ways(net, {"a": place})) for place in (1, 11, 12, 13)], [13, 3, 2, 2])
        self.assertEqual(ways(net, {"a": 13}).standings, [{"a": 13}, {"a": 12}])

    def test_a_thousand_standings(self):
        net = Net({"a": ((), (("b",),) + (("x",),) * 9), "b": ((), (("c",),) + (("x",),) * 9),
                   "c": ((), (("y",),) + (("x",),) * 9)}, {"in": "a"}, ["x", "y"])
        found = ways(net)
        self.assertEqual((len(found), found.follow(["in"] * 999), found.follow(["in"] * 1001)),
                         (1000, (999, (998, 1)), (1, (999, 2))))
        self.assertEqual(classes_of(found), list(range(1000)))
        self.assertEqual(told_apart(found, 999, 998), ["in"] * 2)

    def test_dicts_are_ascending_new_and_nothing_given_is_changed(self):
        net, standing = samples.fronted(), {"b": 2, "a": 1}
        found = ways(net, standing)
        self.assertEqual({tuple(told) for told in found.standings}, {("a", "b")})
        self.assertEqual({tuple(told) for told in found.steps}, {("in", "left")})
        found.standings[0]["a"] = 4
        found.steps[0].clear()
        self.assertEqual((list(standing.items()), net), ([("b", 2), ("a", 1)], samples.fronted()))
        self.assertIs(ways(net, standing).shows(net, standing), True)

    def test_errors(self):
        for call in (ways, Ways([], []).shows):
            samples.refuse_nets(self, ((call, ()), (call, (5,)), (call, ({"a": 0},))))
            for standing in samples.wrong_standings(samples.told()):
                with self.assertRaises(BadStanding):
                    call(samples.told(), standing)


class Following(unittest.TestCase):
    """[11] Lists of inlets that are followed."""

    def test_from_the_first_one_and_from_others(self):
        found = ways(two())
        self.assertEqual(found.follow(["in", "on", "in"]), (5, (2, 1)))
        self.assertEqual(found.follow(("in", "on", "in"), 0), (5, (2, 1)))
        self.assertEqual(found.follow(["in", "on", "in"], 5), (5, (2, 1)))
        self.assertEqual(found.follow(["in", "in"], number=2), (5, (1, 1)))

    def test_none(self):
        found = ways(two())
        for number in range(6):
            self.assertEqual(found.follow([], number), (number, (0, 0)))
        self.assertEqual(found.follow(()), (0, (0, 0)))
        self.assertEqual(ways(Net({"a": ((), ((),))}, {"in": "a"}, [])).follow([]), (0, ()))

    def test_one_by_one(self):
        for seed in range(40):
            net, standing = small(seed)
            found, dice = ways(net, standing), Random(seed)
            number = dice.randrange(len(found))
            inlets = [dice.choice(list(net.inlets)) for _ in range(dice.randint(1, 12))]
            balls = {inlet: inlets.count(inlet) for inlet in net.inlets}
            _, out, behind = plain.rest(net, balls, found.standings[number])
            last, sums = found.follow(inlets, number)
            self.assertEqual((found.standings[last], sums), (behind, tuple(out[outlet] for outlet in net.outlets)))


class Classes(unittest.TestCase):
    """[11] Standings from which the same comes, and lists that tell standings apart."""

    def test_some_classes(self):
        self.assertEqual(classes_of(ways(samples.told())), [0, 1, 2])
        self.assertEqual(classes_of(ways(two())), [0, 1, 0, 0, 1, 0])
        net = Net({"a": ((("x",), ("y",), ("x",)), (("x",), ("y",), ("x",), ("y",)))}, {"in": "a"}, ["x", "y"])
        self.assertEqual(classes_of(ways(net)), [0, 1, 2, 3, 4, 3, 4])
        self.assertEqual(classes_of(ways(net, {"a": 2})), [0, 1, 2, 1, 2])
        self.assertEqual(classes_of(ways(net, {"a": 4})), [0, 1, 0, 1])

    def test_classes_are_numbered_as_they_first_come(self):
        net = Net({"a": ((), (("y",), ("x",), ("z",), ("x",), ("x",)))}, {"in": "a"}, ["x", "y", "z"])
        self.assertEqual(classes_of(ways(net)), [0, 1, 2, 3, 4])
        net = Net({"a": ((), (("y",), ("x",), ("z",)) * 2)}, {"in": "a"}, ["x", "y", "z"])
        self.assertEqual(classes_of(ways(net)), [0, 1, 2, 0, 1, 2])

    def test_no_outlet_gets_anything(self):
        net = Net({"a": ((), ((), ("b",), ("b",))), "b": ((), ((),) * 4)}, {"in": "a"}, ["x"])
        found = ways(net)
        self.assertEqual(classes_of(found), [0] * len(found))
        self.assertIsNone(told_apart(found, 0, len(found) - 1))

    def test_what_tells_apart(self):
        found = ways(samples.told())
        self.assertEqual([told_apart(found, 0, 1), told_apart(found, 0, 2), told_apart(found, 2, 1)],
                         [["in"], ["in", "in"], ["in"]])
        found = ways(two())
        self.assertEqual([told_apart(found, 0, 1), told_apart(found, 0, 2), told_apart(found, 4, 1)], [["in"], None, None])
        for number in range(6):
            self.assertIsNone(told_apart(found, number, number))
        late = ways(Net({"a": ((), (("x",),)), "b": ((), (("x",), ("x",), ("y",)))}, {"in": "a", "on": "b"}, ["x", "y"]))
        self.assertEqual([told_apart(late, 0, 1), told_apart(late, 1, 0), told_apart(late, 0, 2)],
                         [["on", "on"], ["on", "on"], ["on"]])

    def test_one_by_one(self):
        for seed in range(40):
            net, standing = small(seed)
            found, dice = ways(net, standing), Random(seed)
            classes = classes_of(found)
            self.assertEqual(sorted(set(classes), key=classes.index), list(range(len(set(classes)))))
            for _ in range(12):
                one, other = dice.randrange(len(found)), dice.randrange(len(found))
                inlets = told_apart(found, one, other)
                self.assertIs(inlets is None, classes[one] == classes[other])
                longest = 5 if inlets is None else min(5, len(inlets))
                told = plain.parting(net, net, longest, found.standings[one], found.standings[other])
                self.assertEqual(told, inlets if inlets is not None and len(inlets) <= 5 else None)

    def test_the_first_list_of_the_shortest_ones(self):
        net = Net({"a": ((), (("x",), ("b",), ("x",), ("c",))), "b": ((), (("x",),)), "c": ((), (("x",), ("y",)))},
                  {"i": "b", "j": "a", "k": "c"}, ["x", "y"])
        found = ways(net)
        for one, other in product(range(len(found)), repeat=2):
            self.assertEqual(told_apart(found, one, other),
                             plain.parting(net, net, 4, found.standings[one], found.standings[other]))


class Showing(unittest.TestCase):
    """[11] What Ways shows, and what it does not."""

    def test_one_thing_changed(self):
        net, standing = samples.fronted(), {"a": 1, "b": 2}
        found = ways(net, standing)
        self.assertIs(found.shows(net, standing), True)
        self.assertIs(found.shows(net), False)
        self.assertIs(found.shows(samples.gates()), False)
        for at in range(len(found)):
            step = found.steps[at]
            (behind, row), rest = step["in"], {"left": step["left"]}
            others = [{**step, "in": (behind + 1, row)}, {**step, "in": (-1, row)}, {**step, "in": (behind, row[1:])},
                      {**step, "in": (behind, (row[0] + 1,) + row[1:])}, rest, {**step, "q": step["in"]}, {}]
            for other in others:
                told = Ways(found.standings, found.steps[:at] + [other] + found.steps[at + 1:])
                self.assertIs(told.shows(net, standing), False)
            for other in ({"a": 0, "b": 0}, {"a": 1}, {}, {**found.standings[at], "c": 0}):
                told = Ways(found.standings[:at] + [other] + found.standings[at + 1:], found.steps)
                self.assertIs(told.shows(net, standing), False)

    def test_too_few_too_many_and_another_order(self):
        net = samples.told()
        found = ways(net)
        one, other = found.standings, found.steps
        for standings, steps in ((one[:-1], other[:-1]), (one + one[:1], other + other[:1]), ([], []), (one, other[:-1]),
                                 (one[:-1], other), (one[1:] + one[:1], other)):
            self.assertIs(Ways(standings, steps).shows(net), False)
        turned = Ways([one[0], one[2], one[1]],
                      [{"in": (2, (1, 0))}, {"in": (0, (1, 0))}, {"in": (1, (0, 1))}])
        self.assertIs(turned.shows(net), False)
        found.steps[0] = dict(other[1])
        self.assertIs(found.shows(net), False)

    def test_copies_and_equality(self):
        standings, steps = [{"a": 0}], [{"in": (0, (1,))}]
        found = Ways(standings, steps)
        standings[0]["a"] = 1
        standings.append({})
        steps[0]["in"] = (1, (1,))
        steps.append({})
        self.assertEqual((found.standings, found.steps), ([{"a": 0}], [{"in": (0, (1,))}]))
        self.assertEqual(found, Ways(({"a": 0},), ({"in": (0, (1,))},)))
        self.assertEqual(Ways(({"a": 0},), ({"in": (0, (1,))},)).standings, [{"a": 0}])
        for other in (Ways([{"a": 1}], [{"in": (0, (1,))}]), Ways([{"a": 0}], [{"in": (0, (2,))}]), None,
                      ([{"a": 0}], [{"in": (0, (1,))}])):
            self.assertNotEqual(found, other)
