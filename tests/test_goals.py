"""Goals for outlets ([19])."""

import unittest
from random import Random

from ballchutes.errors import BadGoal, BadNet, BadNumber, BadStanding, NeverEnds
from ballchutes.goals import Met, Short, judge_goal, just_goal
from ballchutes.nets import Net
from ballchutes.settling import settle
from tests import plain, samples

WRONG_GOALS = ([], ["x"], (), None, 3, "x", [("x", 1)], {"q": 1}, {"a": 1}, {"in": 1}, {"": 0}, {None: 0}, {1: 1}, {"x": True},
               {"x": False}, {"x": -1}, {"x": 61}, {"x": "1"}, {"x": None}, {"x": (1, 1)}, {"x": 1, "q": 0}, {"x": 10 ** 30})


def thirds():
    """A net of one knot, with one ball of three for an outlet."""
    return Net({"k": ((), (("a",), ("b",), ("b",)))}, {"in": "k"}, ["a", "b"])


def late():
    """A net whose one outlet gets balls from a front alone."""
    return Net({"k": ((("a",), ("a",)), ((),))}, {"in": "k"}, ["a"])


def once():
    """A net with outlets that get some balls from the fronts of two knots, at which unlike inlets come in."""
    return Net({"a": ((("p", "x"), ("p", "p")), (("x",), ("b",))), "b": ((("p",), (), ("q",)), (("y",), ()))},
               {"in": "a", "on": "b"}, ["x", "y", "p", "q", "r"])


def three():
    """A net with three inlets, of which two lead to one knot."""
    return Net({"a": ((), (("x",), ("y",))), "b": ((), ((), ("y", "y"), ("a",)))}, {"i": "b", "j": "a", "h": "b"},
               ["x", "y", "z"])


def fewest(net, goal, standing, most):
    """The first of the fewest numbers of balls that meet a goal, and what lacks with one less, by trying all."""
    lacks = {}
    for total in range(most + 1):
        lacking = {}
        for numbers in plain.numbers_in_all(net.inlets, total):
            out = plain.out_by(net, numbers, standing)
            less = [outlet for outlet in sorted(goal) if out[outlet] < goal[outlet]]
            if not less:
                return dict(zip(sorted(net.inlets), numbers)), lacks
            lacking[numbers] = less[0]
        lacks = lacking
    return None


def just(net, goal, standing, most):
    """The first of the fewest numbers of balls that bring just what is told, by trying all."""
    for total in range(most + 1):
        for numbers in plain.numbers_in_all(net.inlets, total):
            if plain.out_by(net, numbers, standing) == {outlet: goal.get(outlet, 0) for outlet in net.outlets}:
                return dict(zip(sorted(net.inlets), numbers))
    return None


class Judging(unittest.TestCase):
    """[19] Whether a goal can be met, by the fewest balls."""

    def test_the_example(self):
        net = thirds()
        found = judge_goal(net, {"a": 2})
        self.assertEqual([found.balls, found.lacks, just_goal(net, {"a": 1, "b": 2}, 9), just_goal(net, {"a": 2}, 9)],
                         [{"in": 4}, {(3,): "a"}, {"in": 3}, None])
        self.assertEqual([bool(judge_goal(late(), {"a": 3})), judge_goal(late(), {"a": 3}).outlet,
                          judge_goal(late(), {"a": 3}).most], [False, "a", 2])
        self.assertIs(bool(found), True)

    def test_no_balls_are_needed(self):
        for net in (thirds(), late(), once(), three(), samples.single()):
            for goal in ({}, {outlet: 0 for outlet in net.outlets}, {net.outlets[0]: 0}):
                found = judge_goal(net, goal)
                self.assertEqual((found, bool(found)), (Met({inlet: 0 for inlet in net.inlets}, {}), True))
                self.assertIs(found.shows(net, goal), True)
        no_outlets = Net({"a": ((), ((),))}, {"in": "a"}, [])
        self.assertEqual(judge_goal(no_outlets, {}), Met({"in": 0}, {}))

    def test_goals_met_just_and_by_more(self):
        net = Net({"a": ((), (("x", "x"), ("y",)))}, {"in": "a"}, ["x", "y"])
        for goal, many, lack in (({"x": 2}, 1, "x"), ({"x": 1}, 1, "x"), ({"x": 3}, 3, "x"), ({"y": 1}, 2, "y"),
                                 ({"x": 1, "y": 1}, 2, "y"), ({"y": 2, "x": 4}, 4, "y"), ({"x": 5, "y": 2}, 5, "x"),
                                 ({"x": 60}, 59, "x"), ({"x": 60, "y": 0}, 59, "x")):
            found = judge_goal(net, goal)
            self.assertEqual((found.balls, found.lacks), ({"in": many}, {(many - 1,): lack}), goal)
            self.assertIs(found.shows(net, goal), True)

    def test_a_goal_of_sixty(self):
        net = Net({"a": ((), (("x", "x"),)), "b": ((), (("y", "y", "y"),))}, {"in": "a", "on": "b"}, ["x", "y"])
        found = judge_goal(net, {"x": 40, "y": 60})
        self.assertEqual((found.balls, len(found.lacks)), ({"in": 20, "on": 20}, 40))
        self.assertEqual(found.lacks[20, 19], "y")
        self.assertEqual(found.lacks[19, 20], "x")
        self.assertEqual(judge_goal(thirds(), {"b": 60}).balls, {"in": 90})

    def test_balls_of_both_inlets(self):
        found = judge_goal(once(), {"y": 1, "x": 2})
        self.assertEqual(fewest(once(), {"y": 1, "x": 2}, once().start(), 9), (found.balls, found.lacks))
        net = Net({"a": ((), (("x",),)), "b": ((), (("y",),))}, {"on": "a", "in": "b"}, ["x", "y"])
        found = judge_goal(net, {"x": 2, "y": 1})
        self.assertEqual((found.balls, list(found.balls)), ({"in": 1, "on": 2}, ["in", "on"]))
        self.assertEqual(list(found.lacks.items()), [((0, 2), "y"), ((1, 1), "x"), ((2, 0), "x")])

    def test_the_first_of_the_fewest(self):
        net = Net({"a": ((), (("x",),))}, {"in": "a", "on": "a"}, ["x"])
        self.assertEqual(judge_goal(net, {"x": 3}).balls, {"in": 0, "on": 3})
        self.assertEqual(list(judge_goal(net, {"x": 3}).lacks), [(0, 2), (1, 1), (2, 0)])
        net = Net({"a": ((("x",), ("x", "x", "x")), (("x",),)), "b": ((("x", "x"),), (("x",),))}, {"in": "b", "on": "a"}, ["x"])
        self.assertEqual([judge_goal(net, {"x": many}).balls for many in (1, 2, 4, 5, 6, 7)],
                         [{"in": 0, "on": 1}, {"in": 1, "on": 0}, {"in": 0, "on": 2}, {"in": 0, "on": 3}, {"in": 1, "on": 2},
                          {"in": 1, "on": 3}])

    def test_three_inlets(self):
        net = three()
        found = judge_goal(net, {"x": 4, "y": 7})
        self.assertEqual((found.balls, found.lacks), fewest(net, {"x": 4, "y": 7}, net.start(), 14))
        self.assertEqual(list(found.lacks), sorted(found.lacks))
        many = judge_goal(Net({"a": ((), (("x",),)), "b": ((), (("y",),)), "c": ((), (("z",), ()))},
                              {"i": "a", "j": "b", "k": "c"}, ["x", "y", "z"]), {"x": 10, "y": 20, "z": 5})
        self.assertEqual((many.balls, len(many.lacks)), ({"i": 10, "j": 20, "k": 9}, 40 * 39 // 2))

    def test_from_standings(self):
        net = once()
        for standing in plain.all_standings(net):
            for goal in ({"x": 2, "q": 1}, {"p": 1, "y": 1}, {"x": 1}):
                found = judge_goal(net, goal, standing)
                self.assertIs(found.shows(net, goal, standing), True)
                if found:
                    self.assertEqual((found.balls, found.lacks), fewest(net, goal, standing, 12))
        self.assertEqual(judge_goal(thirds(), {"a": 1}, {"k": 1}).balls, {"in": 3})
        self.assertEqual(judge_goal(thirds(), {"a": 1}, None).balls, {"in": 1})
        self.assertIs(judge_goal(thirds(), {"a": 1}, {"k": 1}).shows(thirds(), {"a": 1}), False)

    def test_short(self):
        found = judge_goal(once(), {"x": 5, "p": 4, "q": 2})
        self.assertEqual((found, found.outlet, found.most, bool(found)), (Short("q", 1), "q", 1, False))
        self.assertEqual(judge_goal(late(), {"a": 60}), Short("a", 2))
        self.assertEqual(judge_goal(late(), {"a": 2}).balls, {"in": 2})

    def test_the_first_outlet_that_is_short(self):
        # Four balls come out at p at most, one at q, none at r.
        for goal, outlet, most in (({"p": 5}, "p", 4), ({"q": 2}, "q", 1), ({"r": 1}, "r", 0), ({"r": 60, "q": 2}, "q", 1),
                                   ({"q": 1, "r": 1}, "r", 0), ({"r": 1, "q": 2, "p": 5}, "p", 4),
                                   ({"y": 60, "x": 60, "r": 2}, "r", 0)):
            found = judge_goal(once(), goal)
            self.assertEqual(found, Short(outlet, most), goal)
            self.assertIs(found.shows(once(), goal), True)
        self.assertEqual(judge_goal(once(), {"p": 4, "q": 1}).balls, {"in": 2, "on": 3})

    def test_short_from_standings(self):
        net = once()
        for standing, most in (({"a": 1, "b": 0}, 3), ({"a": 2, "b": 0}, 1), ({"a": 3, "b": 1}, 0), ({"a": 0, "b": 4}, 3),
                               ({"a": 0, "b": 1}, 3)):
            self.assertEqual(judge_goal(net, {"p": 4}, standing), Short("p", most))
            if most:
                self.assertIs(bool(judge_goal(net, {"p": most}, standing)), True)

    def test_one_by_one(self):
        kinds = {True: 0, False: 0}
        for seed in range(90):
            net, dice = samples.made(seed), Random(seed)
            goal = {outlet: dice.randint(0, 4) for outlet in net.outlets if dice.random() < 0.8}
            standing = samples.made_standing(net, dice)
            found = judge_goal(net, goal, standing)
            self.assertIs(found.shows(net, goal, standing), True)
            kinds[bool(found)] += 1
            if not found:
                out = plain.out_by(net, [60] * len(net.inlets), standing)
                self.assertEqual((found.most, found.most < goal[found.outlet]), (out[found.outlet], True))
                self.assertFalse(any(plain.worths(net, found.outlet).values()))
                self.assertTrue(all(out[outlet] >= goal[outlet] for outlet in goal if outlet < found.outlet))
            elif sum(found.balls.values()) <= 12:
                self.assertEqual((found.balls, found.lacks), fewest(net, goal, standing, 12))
                self.assertEqual((list(found.balls), list(found.lacks)), (sorted(net.inlets), sorted(found.lacks)))
        self.assertTrue(min(kinds.values()) > 8, kinds)

    def test_more_balls_never_bring_less(self):
        found = judge_goal(three(), {"x": 3, "y": 5})
        for inlet in three().inlets:
            out = settle(three(), {**found.balls, inlet: found.balls[inlet] + 5}).out
            self.assertTrue(out["x"] >= 3 and out["y"] >= 5)


class JustGoals(unittest.TestCase):
    """[19] Just as much as is told."""

    def test_no_balls(self):
        for most in (0, 1, 40):
            self.assertEqual(just_goal(thirds(), {}, most), {"in": 0})
            self.assertEqual(just_goal(thirds(), {"b": 0}, most), {"in": 0})
            self.assertEqual(just_goal(three(), {"x": 0, "y": 0}, most), {"h": 0, "i": 0, "j": 0})

    def test_most(self):
        net = thirds()
        self.assertEqual([just_goal(net, {"a": 2, "b": 2}, most) for most in (0, 3, 4, 5, 40)],
                         [None, None, {"in": 4}, {"in": 4}, {"in": 4}])
        self.assertEqual([just_goal(net, {"a": 14, "b": 26}, most) for most in (39, 40)], [None, {"in": 40}])
        self.assertIs(just_goal(net, {"a": 14, "b": 27}, 40), None)

    def test_outlets_that_are_not_named_get_nothing(self):
        self.assertIs(just_goal(thirds(), {"a": 2}, 40), None)
        self.assertEqual(just_goal(thirds(), {"a": 1}, 40), {"in": 1})
        self.assertIs(just_goal(thirds(), {"b": 1}, 40), None)
        self.assertEqual(just_goal(thirds(), {"b": 1}, 40, {"k": 1}), {"in": 1})

    def test_balls_that_bring_nothing_out(self):
        net = Net({"a": ((), ((), (), ("x",)))}, {"in": "a", "on": "a"}, ["x"])
        self.assertEqual(just_goal(net, {"x": 2}, 40), {"in": 0, "on": 6})
        self.assertEqual(just_goal(net, {"x": 2}, 6, {"a": 1}), {"in": 0, "on": 5})
        self.assertIs(just_goal(net, {"x": 2}, 5), None)

    def test_one_by_one(self):
        kinds = {True: 0, False: 0}
        for seed in range(120):
            net, dice = samples.made(seed), Random(seed)
            standing = samples.made_standing(net, dice)
            numbers = [dice.randint(0, 3) for _ in net.inlets]
            out = plain.out_by(net, numbers, standing)
            goal = {outlet: many for outlet, many in out.items() if many or dice.random() < 0.5}
            if max(goal.values(), default=0) > 50:
                continue
            if goal and dice.random() < 0.5:
                goal[dice.choice(sorted(goal))] += 1
            most = dice.choice((0, 3, 5, 7))
            found = just_goal(net, goal, most, standing)
            self.assertEqual(found, just(net, goal, standing, most))
            kinds[found is not None] += 1
            if found is not None:
                self.assertEqual(list(found), sorted(net.inlets))
        self.assertTrue(min(kinds.values()) > 20, kinds)

    def test_many_ways(self):
        net = Net({"a": ((), (("x",), ("y",))), "b": ((), (("y",), ("z",))), "c": ((), (("z",), ("x",)))},
                  {"i": "a", "j": "b", "k": "c"}, ["x", "y", "z"])
        self.assertEqual(just_goal(net, {"x": 13, "y": 13, "z": 13}, 39), {"i": 12, "j": 13, "k": 14})
        self.assertIs(just_goal(net, {"x": 13, "y": 13, "z": 13}, 38), None)
        self.assertIs(just_goal(net, {"x": 0, "y": 13, "z": 26}, 40), None)


class ShowingMet(unittest.TestCase):
    """[19] What Met shows, and what it does not."""

    def setUp(self):
        self.net = Net({"a": ((), (("x",),)), "b": ((), (("y",), ("x",)))}, {"in": "a", "on": "b"}, ["x", "y"])
        self.goal = {"x": 2, "y": 1}
        self.found = judge_goal(self.net, self.goal)

    def shows(self, balls=None, lacks=None):
        return Met(balls or self.found.balls, self.found.lacks if lacks is None else lacks).shows(self.net, self.goal)

    def test_what_is_returned(self):
        self.assertEqual((self.found.balls, self.found.lacks), ({"in": 1, "on": 2}, {(0, 2): "x", (1, 1): "x", (2, 0): "y"}))
        self.assertIs(self.shows(), True)

    def test_other_balls(self):
        for balls in ({"in": 2, "on": 2}, {"in": 1, "on": 3}, {"in": 2, "on": 1}, {"in": 0, "on": 3}, {"in": 1, "on": 1},
                      {"in": -1, "on": 4}, {"in": 1}, {"in": 1, "on": 2, "a": 0}, {"a": 1, "b": 2}, {"in": 10 ** 30, "on": 2}):
            self.assertIs(self.shows(balls=balls), False, balls)

    def test_other_lacks(self):
        for numbers in self.found.lacks:
            self.assertIs(self.shows(lacks={each: name for each, name in self.found.lacks.items() if each != numbers}), False)
            for name in ("y" if self.found.lacks[numbers] == "x" else "x", "z", "in"):
                self.assertIs(self.shows(lacks={**self.found.lacks, numbers: name}), False)
        for more in ((3, -1), (-1, 3), (1, 2), (0, 0), (0, 3), (2,), (0, 0, 2)):
            self.assertIs(self.shows(lacks={**self.found.lacks, more: "x"}), False)
        self.assertIs(self.shows(lacks={}), False)

    def test_fewer_where_there_are_as_few_and_the_first_one(self):
        found = judge_goal(self.net, {"x": 3})
        self.assertEqual(found.balls, {"in": 3, "on": 0})
        net = Net({"a": ((), (("x",),))}, {"in": "a", "on": "a"}, ["x"])
        lacks = judge_goal(net, {"x": 2}).lacks
        for balls, expected in (({"in": 0, "on": 2}, True), ({"in": 1, "on": 1}, False), ({"in": 2, "on": 0}, False)):
            self.assertIs(Met(balls, lacks).shows(net, {"x": 2}), expected)

    def test_other_goals_and_standings(self):
        self.assertIs(self.found.shows(self.net, {"x": 2}), False)
        self.assertIs(self.found.shows(self.net, {"x": 3, "y": 1}), False)
        self.assertIs(self.found.shows(self.net, self.goal, {"a": 0, "b": 1}), False)
        self.assertIs(self.found.shows(self.net, self.goal, {"a": 0, "b": 0}), True)
        self.assertIs(Met({"in": 1}, {(0,): "a"}).shows(late(), {"a": 3}), False)
        self.assertIs(Met({"in": 0}, {}).shows(late(), {"a": 1}), False)

    def test_copies_and_equality(self):
        balls, lacks = {"in": 1}, {(0,): "x"}
        found = Met(balls, lacks)
        balls["in"] = 5
        lacks.clear()
        self.assertEqual((found.balls, found.lacks), ({"in": 1}, {(0,): "x"}))
        self.assertEqual(found, Met({"in": 1}, {(0,): "x"}))
        for other in (Met({"in": 2}, {(0,): "x"}), Met({"in": 1}, {(0,): "y"}), Met({"in": 1}, {}), Short("in", 1), None):
            self.assertNotEqual(found, other)
        self.found.balls["in"] = 2
        self.assertIs(self.found.shows(self.net, self.goal), False)
        again = judge_goal(self.net, self.goal)
        again.lacks.clear()
        self.assertIs(judge_goal(self.net, self.goal).shows(self.net, self.goal), True)


class ShowingShort(unittest.TestCase):
    """[19] What Short shows, and what it does not."""

    def test_one_thing_changed(self):
        goal = {"p": 4, "q": 3, "r": 2}
        self.assertIs(Short("q", 1).shows(once(), goal), True)
        for told in (("q", 2), ("q", 0), ("q", -1), ("q", 10 ** 30), ("p", 4), ("r", 0), ("x", 1), ("a", 1), ("", 1)):
            self.assertIs(Short(*told).shows(once(), goal), False, told)
        self.assertIs(Short("q", 1).shows(once(), {"p": 5, "q": 3}), False)
        self.assertIs(Short("q", 1).shows(once(), {"p": 4, "q": 1}), False)
        self.assertIs(Short("q", 1).shows(once(), {}), False)
        self.assertIs(Short("q", 1).shows(once(), {"q": 3}, {"a": 0, "b": 3}), False)
        self.assertIs(Short("q", 0).shows(once(), {"q": 3}, {"a": 0, "b": 3}), True)

    def test_equality(self):
        found = Short("x", 2)
        self.assertEqual((found, found.outlet, found.most, bool(found)), (Short("x", 2), "x", 2, False))
        for other in (Short("y", 2), Short("x", 1), Met({}, {}), None):
            self.assertNotEqual(found, other)


class Wrong(unittest.TestCase):
    """[1], [19] Errors, those documented first ahead."""

    def calls(self):
        return ((judge_goal, ()), (Met({}, {}).shows, ()), (Short("x", 1).shows, ()), (just_goal, (9,)))

    def test_nets(self):
        for call, more in self.calls():
            for goal in ({"x": 1}, {"q": 1}):
                samples.refuse_nets(self, ((call, (goal, *more)), (call, (goal, *more, {"q": 0}))))
        samples.refuse_nets(self, ((just_goal, (None, True, 0)),))

    def test_standings_then_goals(self):
        net = samples.told()
        for call, more in self.calls():
            for standing in samples.wrong_standings(net):
                for goal in ({"x": 1}, {"q": 1}, None):
                    with self.assertRaises(BadStanding):
                        call(net, goal, *more, standing)
            for goal in WRONG_GOALS:
                for standing in (None, net.start()):
                    with self.assertRaises(BadGoal):
                        call(net, goal, *more, standing)

    def test_numbers(self):
        net = samples.told()
        for most in (-1, 41, True, False, None, "3", (1,), 10 ** 30, -10 ** 30):
            with self.assertRaises(BadNumber):
                just_goal(net, {"x": 1}, most)
            with self.assertRaises(BadNumber):
                just_goal(net, {}, most, net.start())
            with self.assertRaises(BadGoal):
                just_goal(net, {"x": 61}, most)
            with self.assertRaises(BadStanding):
                just_goal(net, {"x": 1}, most, {})
            with self.assertRaises(NeverEnds):
                just_goal(samples.endless()["itself"], {"x": 1}, most, {})
            with self.assertRaises(BadNet):
                just_goal(None, {"x": 1}, most, {})

    def test_nothing_is_changed(self):
        net, goal, standing = once(), {"y": 1, "p": 2}, {"b": 1, "a": 0}
        judge_goal(net, goal, standing)
        just_goal(net, goal, 5, standing)
        for call in (judge_goal, Met({}, {}).shows):
            with self.assertRaises(BadGoal):
                call(net, {"y": 61}, standing)
        self.assertEqual((net, goal, standing, list(goal)), (once(), {"y": 1, "p": 2}, {"b": 1, "a": 0}, ["y", "p"]))
