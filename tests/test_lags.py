"""Lags ([9])."""

import unittest
from fractions import Fraction
from random import Random

from ballchutes.errors import BadStanding, NoPart
from ballchutes.lags import Levels, lag, levels, spread
from ballchutes.nets import Net
from ballchutes.settling import settle
from ballchutes.shares import share_of, shares
from tests import plain, samples


class Lags(unittest.TestCase):
    """[9] How far what comes out is from what the balls are worth."""

    def test_the_example(self):
        net = samples.told()
        self.assertEqual([levels(net, "x").heights, spread(net, "x")],
                         [{"a": [(0, 1), (1, 3)], "b": [(0, 1), (-1, 3)]}, (2, 3)])
        self.assertEqual(levels(net, "x").worths, {"a": (2, 3), "b": (1, 3)})

    def test_each_next_place(self):
        for seed in range(80):
            net = samples.made(seed)
            for outlet in net.outlets:
                found = levels(net, outlet)
                self.assertEqual(found.worths, shares(net, outlet).worths)
                self.assertEqual((list(found.worths), list(found.heights)), (list(net.knots), list(net.knots)))
                worths = {outlet: Fraction(1), **plain.worths(net, outlet)}
                for knot, row in found.heights.items():
                    self.assertEqual((row[0], len(row)), ((0, 1), sum(len(drops) for drops in net.knots[knot])))
                    for place, height in enumerate(row):
                        worth = sum(worths.get(target, 0) for target in plain.drop_at(net, knot, place))
                        behind = row[plain.next_place(net, knot, place)]
                        self.assertEqual(Fraction(*behind), Fraction(*height) + worths[knot] - worth)
                        self.assertEqual((Fraction(*height).numerator, Fraction(*height).denominator), height)
                self.assertIs(found.shows(net, outlet), True)

    def test_what_comes_out_is_worth_less_lag(self):
        for seed in range(80):
            net, dice = samples.made(seed), Random(seed)
            for outlet in net.outlets:
                standing = samples.made_standing(net, dice)
                balls = {name: dice.randint(0, 30) for name in [*net.knots, *net.inlets]}
                found = settle(net, balls, standing)
                worth = sum(many * Fraction(*share_of(net, name, outlet)) for name, many in balls.items())
                late = lag(net, outlet, standing, found.standing)
                self.assertEqual(found.out[outlet], worth - Fraction(*late))
                self.assertEqual((Fraction(*late).numerator, Fraction(*late).denominator), late)
                self.assertLessEqual(abs(Fraction(*late)), Fraction(*spread(net, outlet)))

    def test_the_lag_is_that_of_the_other_one_less_that_of_the_one(self):
        net = samples.told()
        one, other = {"a": 0, "b": 1}, {"b": 0, "a": 1}
        self.assertEqual(lag(net, "x", one, other), (2, 3))
        self.assertEqual(lag(net, "x", other, one), (-2, 3))
        self.assertEqual(lag(net, "x", one, one), (0, 1))
        self.assertEqual(lag(net, "x", {"a": 0, "b": 0}, {"a": 1, "b": 1}), (0, 1))

    def test_the_spread_is_the_greatest_less_the_least(self):
        for seed in range(60):
            net = samples.made(seed)
            for outlet in net.outlets:
                rows = [[Fraction(*height) for height in row] for row in levels(net, outlet).heights.values()]
                told = sum(max(row) - min(row) for row in rows)
                self.assertEqual(spread(net, outlet), (told.numerator, told.denominator))

    def test_heights_above_below_and_in_a_front(self):
        net = Net({"a": ((("x", "x", "x"), ()), ((), ("x",), (), ("x",)))}, {"in": "a"}, ["x", "y"])
        self.assertEqual(levels(net, "x").heights, {"a": [(0, 1), (-5, 2), (-2, 1), (-3, 2), (-2, 1), (-3, 2)]})
        self.assertEqual([spread(net, "x"), spread(net, "y")], [(5, 2), (0, 1)])
        self.assertEqual(lag(net, "x", {"a": 0}, {"a": 1}), (-5, 2))
        self.assertEqual(levels(net, "y"), Levels({"a": (0, 1)}, {"a": [(0, 1)] * 6}))
        self.assertEqual(spread(samples.single(), "x"), (0, 1))


class Showing(unittest.TestCase):
    """[9] What Levels shows, and what it does not."""

    def setUp(self):
        self.net = Net({"a": ((("x", "x", "x"), ()), ((), ("x",), (), ("b",))), "b": ((), (("y",), ("a",)))},
                       {"in": "a"}, ["x", "y"])
        self.found = levels(self.net, "x")

    def shows(self, heights, worths=None):
        return Levels(self.found.worths if worths is None else worths, heights).shows(self.net, "x")

    def test_any_level_and_any_fractions_will_do(self):
        self.assertIs(self.shows(self.found.heights), True)
        higher = {knot: [(3 * (top + 5 * bottom), 3 * bottom) for top, bottom in row]
                  for knot, row in self.found.heights.items()}
        self.assertIs(self.shows(higher), True)
        self.assertIs(self.shows({**self.found.heights, "b": higher["b"]}), True)
        self.assertIs(self.shows({knot: tuple(row) for knot, row in higher.items()}), True)
        doubled = {knot: (2 * top, 2 * bottom) for knot, (top, bottom) in self.found.worths.items()}
        self.assertIs(self.shows(higher, doubled), True)

    def test_one_height_changed(self):
        for knot, row in self.found.heights.items():
            for place, (top, bottom) in enumerate(row):
                for wrong in ((top + 1, bottom), (top * 10 ** 20 - 1, bottom * 10 ** 20), (top, 0), (-top, -bottom),
                              (top, -bottom), (0, 0), [top, bottom], (top, bottom, 1)):
                    heights = {**self.found.heights, knot: row[:place] + [wrong] + row[place + 1:]}
                    self.assertIs(self.shows(heights), False)

    def test_other_lengths_and_knots(self):
        for knot, row in self.found.heights.items():
            for wrong in ([], row[:-1], row + [row[0]], row[1:], row + [row[-1]]):
                self.assertIs(self.shows({**self.found.heights, knot: wrong}), False)
            self.assertIs(self.shows({one: told for one, told in self.found.heights.items() if one != knot}), False)
        self.assertIs(self.shows({**self.found.heights, "q": [(0, 1)]}), False)
        self.assertIs(self.shows({**self.found.heights, "q": []}), False)
        self.assertIs(self.shows({}), False)

    def test_other_worths(self):
        for knot, (top, bottom) in self.found.worths.items():
            for wrong in ((top + 1, bottom), (top, bottom + 1), (top, 0), (-top, -bottom), (top, -bottom)):
                self.assertIs(self.shows(self.found.heights, {**self.found.worths, knot: wrong}), False)
            self.assertIs(self.shows(self.found.heights, {knot: (top, bottom)}), False)
        self.assertIs(self.shows(self.found.heights, {**self.found.worths, "q": (0, 1)}), False)
        self.assertIs(self.shows(self.found.heights, {}), False)
        self.assertIs(self.found.shows(self.net, "y"), False)

    def test_copies_and_equality(self):
        worths, heights = {"a": (1, 1)}, {"a": [(0, 1)]}
        found = Levels(worths, heights)
        worths["a"] = (2, 1)
        heights["a"].append((1, 1))
        heights["b"] = []
        self.assertEqual((found.worths, found.heights), ({"a": (1, 1)}, {"a": [(0, 1)]}))
        self.assertEqual(found, Levels({"a": (1, 1)}, {"a": ((0, 1),)}))
        for other in (Levels({"a": (2, 1)}, {"a": [(0, 1)]}), Levels({"a": (1, 1)}, {"a": []}), None):
            self.assertNotEqual(found, other)
        levels(self.net, "x").heights["a"].clear()
        self.assertEqual(levels(self.net, "x"), self.found)


class Wrong(unittest.TestCase):
    """[1], [9] Errors, those documented first ahead."""

    def test_no_nets_and_nets_that_do_not_end(self):
        samples.refuse_nets(self, ((levels, ("q",)), (lag, ("q", 5, 5)), (spread, ("q",)),
                                   (Levels({}, {}).shows, ("q",))))

    def test_no_outlets(self):
        for wrong in ("a", "in", "q", "", None, 3, ["x"]):
            for call, told in ((levels, ()), (lag, (5, 5)), (spread, ()), (Levels({}, {}).shows, ())):
                with self.assertRaises(NoPart) as caught:
                    call(samples.told(), wrong, *told)
                self.assertEqual(caught.exception.name, wrong)

    def test_wrong_standings(self):
        net = samples.told()
        for standing in samples.wrong_standings(net) + [None]:
            for one, other in ((standing, net.start()), (net.start(), standing)):
                with self.assertRaises(BadStanding):
                    lag(net, "x", one, other)

    def test_what_is_given_is_not_changed(self):
        one, other = {"b": 1, "a": 0}, {"b": 0, "a": 1}
        lag(samples.told(), "x", one, other)
        self.assertEqual((list(one.items()), list(other.items())), ([("b", 1), ("a", 0)], [("b", 0), ("a", 1)]))
