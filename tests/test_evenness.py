"""Outlets that are even ([18])."""

import unittest
from fractions import Fraction
from random import Random

from ballchutes.errors import NoPart
from ballchutes.evenness import Even, Uneven, judge_even
from ballchutes.nets import Net
from ballchutes.rounds import round_of
from ballchutes.settling import settle
from tests import plain, samples


def row(targets, front=""):
    """A net of one knot that does drops of one target each."""
    return Net({"a": (tuple((sign,) for sign in front), tuple((sign,) for sign in targets))}, {"in": "a"}, ["x", "y"])


def two():
    """A net with two inlets whose balls come to knots of their own."""
    return Net({"a": ((("y",),), (("x",), ("y",))), "b": ((), (("x",), ("x",), ("y",), ("y",)))}, {"on": "b", "in": "a"},
               ["x", "y", "z"])


def aheads(net, one, other, most):
    """By how many the one is ahead, for all numbers of balls at inlets up to a sum, counted ball by ball."""
    near, found = [({inlet: 0 for inlet in net.inlets}, net.start(), 0)], []
    places = [sorted(net.outlets).index(outlet) for outlet in (one, other)]
    for _ in range(most + 1):
        far = []
        for balls, standing, lead in near:
            found.append((balls, lead))
            for inlet in net.inlets:
                row_, behind = plain.row_behind(net, inlet, standing)
                more = {**balls, inlet: balls[inlet] + 1}
                if more not in [told for told, _, _ in far]:
                    far.append((more, behind, lead + row_[places[0]] - row_[places[1]]))
        near = far
    return found


class Judging(unittest.TestCase):
    """[18] How far an outlet is ahead of another one."""

    def test_the_example(self):
        net = Net({"a": ((), (("x",), ("y",), ("y",), ("x",)))}, {"in": "a"}, ["x", "y"])
        found = judge_even(net, "x", "y")
        self.assertEqual([found.least, found.most, found.low,
                          judge_even(Net({"a": ((), (("x",), ("y",), ("x",)))}, {"in": "a"}, ["x", "y"]), "y", "x").more],
                         [-1, 1, {"in": 3}, -1])
        self.assertEqual((found.standings, bool(found)), ([{"a": 0}, {"a": 1}, {"a": 2}, {"a": 3}], True))

    def test_uneven(self):
        found = judge_even(row("xyx"), "x", "y")
        self.assertEqual((found, bool(found)), (Uneven("in", 3, 1), False))
        self.assertIs(found.shows(row("xyx"), "x", "y"), True)
        self.assertEqual(judge_even(row("xyxy", "xxx"), "y", "x").least, -4)
        third = Net({"a": ((), (("b",), ("x",))), "b": ((), (("a",), ("y",)))}, {"in": "a"}, ["x", "y"])
        self.assertEqual(judge_even(third, "x", "y"), Uneven("in", 3, 1))

    def test_uneven_by_one_inlet_alone(self):
        net = Net({"a": ((), (("x",), ("y",))), "b": ((), (("x", "x"), ("y",), ("z",)))}, {"in": "a", "on": "b"},
                  ["x", "y", "z"])
        self.assertEqual([judge_even(net, "x", "y"), judge_even(net, "z", "y")], [Uneven("on", 3, 1), Uneven("in", 2, -1)])
        self.assertIs(bool(judge_even(net, "z", "z")), True)

    def test_more_by_a_round_of_which_no_ball_is_whole(self):
        net = row("xyxxyx")
        self.assertEqual(judge_even(net, "x", "y"), Uneven("in", 6, 2))
        net = Net({"a": ((), ((),) * 6 + (("x", "x", "y"),))}, {"in": "a"}, ["x", "y"])
        self.assertEqual(judge_even(net, "y", "x"), Uneven("in", 7, -1))

    def test_a_front_counts(self):
        found = judge_even(row("xy", "yyx"), "x", "y")
        self.assertEqual([found.least, found.most, found.low, found.high], [-2, 0, {"in": 2}, {"in": 0}])
        found = judge_even(row("yx", "xyxxx"), "x", "y")
        self.assertEqual([found.least, found.most, found.low, found.high], [0, 3, {"in": 0}, {"in": 5}])

    def test_two_inlets_together(self):
        found = judge_even(two(), "x", "y")
        self.assertEqual([found.least, found.most], [-1, 2])
        self.assertEqual([list(found.low), list(found.high)], [["in", "on"]] * 2)
        self.assertIs(found.shows(two(), "x", "y"), True)
        self.assertEqual([judge_even(two(), "y", "x").least, judge_even(two(), "y", "x").most], [-2, 1])

    def test_equal_outlets(self):
        for net in (two(), samples.told(), samples.fronted(), row("xxx")):
            for outlet in net.outlets:
                found = judge_even(net, outlet, outlet)
                self.assertEqual((found.least, found.most, found.shows(net, outlet, outlet)), (0, 0, True))
                self.assertEqual(found.low, {inlet: 0 for inlet in net.inlets})

    def test_outlets_that_get_nothing(self):
        net = Net({"a": ((), ((), ("x",)))}, {"in": "a"}, ["x", "y", "z"])
        found = judge_even(net, "y", "z")
        self.assertEqual([found.least, found.most], [0, 0])
        self.assertEqual(judge_even(net, "y", "x"), Uneven("in", 2, -1))

    def test_one_by_one(self):
        kinds = {True: 0, False: 0}
        for seed in range(120):
            net = samples.made(seed)
            if not net.outlets:
                continue
            dice = Random(seed)
            one, other = dice.choice(net.outlets), dice.choice(net.outlets)
            worths, others = plain.worths(net, one), plain.worths(net, other)
            unequal = [inlet for inlet, knot in net.inlets.items() if worths[knot] != others[knot]]
            found = judge_even(net, one, other)
            self.assertIs(bool(found), not unequal)
            self.assertIs(found.shows(net, one, other), True)
            kinds[bool(found)] += one != other
            if found:
                leads = aheads(net, one, other, 7)
                self.assertTrue(all(found.least <= lead <= found.most for _, lead in leads))
                for balls, number in ((found.low, found.least), (found.high, found.most)):
                    out = plain.rest(net, balls, net.start())[1]
                    self.assertEqual((out[one] - out[other], list(balls)), (number, list(net.inlets)))
                self.assertEqual(found.standings, plain.reached(net, net.start()))
            else:
                self.assertIn(found.inlet, unequal)
                self.assertEqual(found.balls, round_of(net, found.inlet).many)
                knot = net.inlets[found.inlet]
                self.assertEqual(Fraction(found.more), found.balls * (worths[knot] - others[knot]))
        self.assertTrue(min(kinds.values()) > 3, kinds)

    def test_a_thousand_standings(self):
        net = Net({"a": ((), (("b",),) + (("x", "y"),) * 9), "b": ((), (("c",),) + (("x",), ("y",)) * 4),
                   "c": ((), (("x",), ("x",), ("x",), ("y",), ("y",), ("y",)))}, {"in": "a"}, ["x", "y"])
        found = judge_even(net, "x", "y")
        self.assertEqual((len(found.standings), found.least, found.most), (540, 0, 4))
        self.assertIs(found.shows(net, "x", "y"), True)


class ShowingEven(unittest.TestCase):
    """[18] What Even shows, and what it does not."""

    def setUp(self):
        self.net = two()
        self.found = judge_even(self.net, "x", "y")

    def shows(self, net=None, one="x", other="y", **changes):
        found = self.found
        told = {"least": found.least, "most": found.most, "low": found.low, "high": found.high,
                "standings": found.standings, **changes}
        return Even(**told).shows(net or self.net, one, other)

    def test_what_is_returned_and_the_like(self):
        self.assertIs(self.shows(), True)
        self.assertIs(self.shows(standings=tuple(self.found.standings[::-1] * 2)), True)
        self.assertIs(self.shows(standings=plain.all_standings(self.net)), True)
        self.assertIs(self.shows(low={"in": 1}), True)
        self.assertIs(self.shows(low={"on": 4 * 10 ** 30, "in": 2 * 10 ** 30 + 1}), True)

    def test_numbers_that_are_off(self):
        for off in (1, -1, 10 ** 30):
            self.assertIs(self.shows(least=self.found.least + off), False)
            self.assertIs(self.shows(most=self.found.most + off), False)
        self.assertIs(self.shows(least=0, low={"in": 0, "on": 0}), False)
        self.assertIs(self.shows(most=1, high={"in": 0, "on": 1}), False)

    def test_balls_behind_which_it_is_not_so(self):
        for balls in ({"in": 0, "on": 0}, {}, {"in": -1}, {"in": 1, "q": 0}, {"a": 1}, {"in": 2}, {"in": 1, "on": 1}):
            self.assertIs(self.shows(low=balls), False)
            self.assertIs(self.shows(high=balls), False)
        self.assertIs(self.shows(low=self.found.high), False)
        self.assertIs(self.shows(high=self.found.low), False)

    def test_standings_left_out_and_wrong_ones(self):
        standings = self.found.standings
        for at in range(len(standings)):
            self.assertIs(self.shows(standings=standings[:at] + standings[at + 1:]), False)
        self.assertIs(self.shows(standings=[]), False)
        back = [standing for standing in standings if standing["a"] != 0]
        self.assertIs(self.shows(standings=back), False)
        for wrong in ({}, {"a": 0}, {"a": 3, "b": 0}, {"a": 0, "b": -1}, {"a": 0, "b": 0, "c": 0}, {"a": 0, "in": 0}):
            self.assertIs(self.shows(standings=standings + [wrong]), False)

    def test_other_outlets_and_nets(self):
        self.assertIs(self.shows(one="y", other="x"), False)
        self.assertIs(self.shows(other="z"), False)
        self.assertIs(self.shows(one="y"), False)
        self.assertIs(self.shows(samples.begun(self.net, {"a": 1, "b": 0})), False)
        self.assertIs(Even(0, 1, {}, {"in": 1}, [{"a": 0}, {"a": 1}, {"a": 2}]).shows(row("xyx"), "x", "y"), False)
        self.assertIs(Even(0, 1, {}, {"in": 1}, [{"a": 0}, {"a": 1}]).shows(row("xy"), "x", "y"), True)

    def test_copies_and_equality(self):
        low, high, standing = {"in": 0}, {"in": 1}, {"a": 0}
        standings = [standing]
        found = Even(0, 1, low, high, standings)
        low["in"], high["in"], standing["a"] = 5, 5, 5
        standings.append({})
        self.assertEqual((found.least, found.most, found.low, found.high, found.standings),
                         (0, 1, {"in": 0}, {"in": 1}, [{"a": 0}]))
        self.assertEqual(found, Even(0, 1, {"in": 0}, {"in": 1}, ({"a": 0},)))
        for other in (Even(1, 1, {"in": 0}, {"in": 1}, [{"a": 0}]), Even(0, 2, {"in": 0}, {"in": 1}, [{"a": 0}]),
                      Even(0, 1, {"in": 1}, {"in": 1}, [{"a": 0}]), Even(0, 1, {"in": 0}, {"in": 0}, [{"a": 0}]),
                      Even(0, 1, {"in": 0}, {"in": 1}, []), Uneven("in", 0, 1), None):
            self.assertNotEqual(found, other)
        self.found.least = -2
        self.assertIs(self.found.shows(self.net, "x", "y"), False)


class ShowingUneven(unittest.TestCase):
    """[18] What Uneven shows, and what it does not."""

    def test_one_thing_changed(self):
        net = Net({"a": ((), (("x",), ("y",))), "b": ((), (("x", "x"), ("y",), ("z",)))}, {"in": "a", "on": "b"},
                  ["x", "y", "z"])
        self.assertIs(Uneven("on", 3, 1).shows(net, "x", "y"), True)
        self.assertIs(Uneven("on", 3, -1).shows(net, "y", "x"), True)
        self.assertIs(Uneven("in", 2, 1).shows(net, "x", "z"), True)
        for told in (("on", 6, 2), ("on", 2, 1), ("on", 0, 0), ("on", 3, 2), ("on", 3, -1), ("on", -3, -1), ("in", 2, 0),
                     ("in", 3, 1), ("b", 3, 1), ("q", 3, 1), ("x", 3, 1)):
            self.assertIs(Uneven(*told).shows(net, "x", "y"), False)
        self.assertIs(Uneven("on", 3, 1).shows(net, "y", "x"), False)
        self.assertIs(Uneven("on", 3, 0).shows(net, "y", "z"), False)
        self.assertIs(Uneven("in", 2, 0).shows(row("xy"), "x", "y"), False)

    def test_equality(self):
        found = Uneven("in", 3, 1)
        self.assertEqual(found, Uneven("in", 3, 1))
        self.assertEqual((found.inlet, found.balls, found.more), ("in", 3, 1))
        for other in (Uneven("on", 3, 1), Uneven("in", 4, 1), Uneven("in", 3, 2), None):
            self.assertNotEqual(found, other)
        found.balls = 6
        self.assertIs(found.shows(row("xyx"), "x", "y"), False)


class Wrong(unittest.TestCase):
    """[1], [18] Errors, those documented first ahead."""

    def test_errors(self):
        calls = (judge_even, Even(0, 0, {}, {}, []).shows, Uneven("q", 1, 1).shows)
        for call in calls:
            samples.refuse_nets(self, ((call, ("q", "r")), (call, ("x", "x"))))
            for name in ("a", "in", "q", "", None, 5, ["x"]):
                for pair, wrong in ((("x", name), name), ((name, "x"), name), ((name, "r"), name)):
                    with self.assertRaises(NoPart) as caught:
                        call(samples.told(), *pair)
                    self.assertEqual(caught.exception.name, wrong)

    def test_nothing_is_changed(self):
        net = two()
        found = judge_even(net, "x", "y")
        found.standings[0]["a"] = 2
        found.low.clear()
        self.assertEqual(net, two())
        self.assertIs(judge_even(net, "x", "y").shows(net, "x", "y"), True)
        self.assertEqual(settle(net, judge_even(net, "x", "y").low).out["z"], 0)
