"""Balls at told knots and inlets that lead from one standing to another one ([24])."""

import unittest
from itertools import combinations
from random import Random

from ballchutes.errors import BadNet, BadStanding, NeverEnds, NoPart, NotBack
from ballchutes.groups import sum_of
from ballchutes.nets import Net
from ballchutes.reaching import Barred, Reaches, fewest_to, judge_reach, reaching_sets
from ballchutes.rounds import round_of
from ballchutes.settling import settle
from tests import plain, samples
from tests.test_groups import few, side_by_side


def pair():
    """The net of the document's example."""
    return Net({"a": ((), (("x",), ("y",))), "b": ((), (("x",), ("y",), ("y",)))}, {"i": "a", "j": "b"}, ["x", "y"])


def some_names(net, dice):
    names = [name for name in [*net.knots, *net.inlets] if dice.random() < 0.4]
    dice.shuffle(names)
    return names + names[:dice.randint(0, 1)]


def least_sets(net):
    """The least sets of knots by whose balls all standings that come back are led to each other, by trying all."""
    back = plain.standings_back(net)
    found = []
    for many in range(len(net.knots) + 1):
        for names in combinations(sorted(net.knots), many):
            if not any(set(least) <= set(names) for least in found) and len(plain.led_to(net, names, back[0])) == len(back):
                found.append(names)
    return found


class Judging(unittest.TestCase):
    """[24] Whether balls at some names lead from one standing to another one."""

    def test_the_example(self):
        net = pair()
        one, other = {"a": 0, "b": 0}, {"a": 0, "b": 2}
        self.assertEqual([judge_reach(net, one, other, ["j"]).balls["j"] % 3, bool(judge_reach(net, one, other, ["i"])),
                          fewest_to(net, one, other, "j"), reaching_sets(net)], [2, False, 2, [("a", "b")]])

    def test_a_standing_from_itself(self):
        for net in (pair(), samples.told(), samples.gates()):
            for standing in plain.standings_back(net):
                self.assertEqual(judge_reach(net, standing, standing, []), Reaches({}))
                self.assertIs(judge_reach(net, standing, standing, ()).shows(net, standing, standing, ()), True)
                for names in (list(net.knots), list(net.inlets)):
                    found = judge_reach(net, standing, standing, names)
                    self.assertEqual((bool(found), found.shows(net, standing, standing, names)), (True, True))
                    self.assertTrue(set(found.balls) <= set(names))

    def test_no_names(self):
        one, other = {"a": 0, "b": 0}, {"a": 1, "b": 0}
        found = judge_reach(pair(), one, other, [])
        self.assertEqual((bool(found), found.shows(pair(), one, other, [])), (False, True))

    def test_names_twice_and_inlets_beside_their_knots(self):
        one, other = {"a": 0, "b": 0}, {"a": 1, "b": 2}
        for names in (["i", "j"], ["a", "b"], ["b", "i"], ["i", "i", "j"], ["a", "i", "b", "j"], ("j", "b", "a", "b")):
            found = judge_reach(pair(), one, other, names)
            self.assertEqual((bool(found), found.shows(pair(), one, other, names)), (True, True))
            self.assertEqual(plain.behind(pair(), found.balls, one), other)
        for names in (["i", "a"], ["j", "b", "b"], ["a", "a"]):
            found = judge_reach(pair(), one, other, names)
            self.assertEqual((bool(found), found.shows(pair(), one, other, names)), (False, True))

    def test_balls_of_several_names_are_needed(self):
        net = Net({"a": ((), (("x",),) * 4), "b": ((), (("c",),) * 6), "c": ((), (("x",),) * 4)}, {"i": "a", "j": "b"}, ["x"])
        one, other = net.start(), {"a": 3, "b": 5, "c": 1}
        found = judge_reach(net, one, other, ["c", "a", "j"])
        self.assertEqual((bool(found), plain.behind(net, found.balls, one)), (True, other))
        self.assertIs(bool(judge_reach(net, one, other, ["a", "j"])), True)
        self.assertIs(bool(judge_reach(net, one, {"a": 3, "b": 5, "c": 2}, ["a", "j"])), False)

    def test_one_by_one(self):
        kinds = {True: 0, False: 0}
        for seed in range(150):
            net, dice = few(seed), Random(seed)
            back = plain.standings_back(net)
            one, other, names = dice.choice(back), dice.choice(back), some_names(net, dice)
            expected = plain.key(other) in plain.led_to(net, names, one)
            found = judge_reach(net, one, other, names)
            self.assertIs(bool(found), expected)
            self.assertIs(found.shows(net, one, other, names), True)
            kinds[expected] += one != other
            if expected:
                self.assertEqual(plain.behind(net, found.balls, one), other)
                self.assertTrue(set(found.balls) <= set(names) and list(found.balls) == sorted(found.balls))
                self.assertTrue(all(many >= 0 for many in found.balls.values()))
            else:
                self.assertEqual(list(found.weights), sorted(net.knots))
                self.assertTrue(found.modulus >= 2)
        self.assertTrue(min(kinds.values()) > 20, kinds)

    def test_fewest_ball_by_ball(self):
        kinds = {True: 0, False: 0}
        for seed in range(120):
            net, dice = few(seed), Random(seed)
            back = plain.standings_back(net)
            one, other = dice.choice(back), dice.choice(back)
            for name in [*net.knots, *net.inlets]:
                led = plain.led_to(net, [name], one)
                expected = led[plain.key(other)][1] if plain.key(other) in led else None
                self.assertEqual(fewest_to(net, one, other, name), expected)
                self.assertEqual(fewest_to(net, one, one, name), 0)
                kinds[expected is not None] += one != other
        self.assertTrue(min(kinds.values()) > 20, kinds)

    def test_ten_thousand(self):
        net = Net({"a": ((), ((),) * 9 + (("b",),)), "b": ((), ((),) * 9 + (("c",),)), "c": ((), ((),) * 9 + (("d",),)),
                   "d": ((), ((),) * 9 + (("x",),))}, {"in": "a"}, ["x"])
        one, other = {"a": 1, "b": 0, "c": 0, "d": 0}, {"a": 0, "b": 0, "c": 0, "d": 0}
        self.assertEqual([fewest_to(net, one, other, name) for name in ("in", "a", "b", "d")], [9999, 9999, None, None])
        self.assertEqual(fewest_to(net, other, {"a": 0, "b": 3, "c": 2, "d": 1}, "b"), 123)
        self.assertIs(judge_reach(net, one, other, ["a"]).shows(net, one, other, ["a"]), True)
        self.assertIs(judge_reach(net, one, other, ["b"]).shows(net, one, other, ["b"]), True)


class Sets(unittest.TestCase):
    """[24] The least sets of knots that lead everywhere."""

    def test_some_nets(self):
        self.assertEqual(reaching_sets(samples.told()), [("a",), ("b",)])
        self.assertEqual(reaching_sets(pair()), [("a", "b")])
        self.assertEqual(reaching_sets(side_by_side(2, 1, 3)), [("a", "c")])

    def test_one_standing_alone(self):
        for net in (samples.single(), side_by_side(1, 1, 1)):
            self.assertEqual(reaching_sets(net), [()])

    def test_sets_of_several_sizes(self):
        # Balls at c lead to both others; without them, those of both are needed, as far as they go.
        net = Net({"a": ((), (("x",), ("x",))), "b": ((), (("x",), ("x",), ("x",))), "c": ((), (("a", "b"),))},
                  {"i": "c", "j": "a", "k": "b"}, ["x"])
        self.assertEqual(reaching_sets(net), [("c",), ("a", "b")])
        self.assertEqual(least_sets(net), [("c",), ("a", "b")])

    def test_one_by_one(self):
        sizes = {}
        for seed in range(150):
            net = few(seed)
            found = reaching_sets(net)
            self.assertEqual(found, least_sets(net))
            self.assertEqual(found, sorted(found, key=lambda names: (len(names), names)))
            sizes[tuple(sorted({len(names) for names in found}))] = True
        self.assertTrue({(0,), (1,), (2,), (1, 2)} <= set(sizes), sizes)

    def test_six_knots(self):
        net = side_by_side(2, 2, 3, 3, 2, 5)
        self.assertEqual(reaching_sets(net), [("a", "b", "c", "d", "e", "f")])
        knots = {name: ((), ((samples.NAMES[at - 1],) if at else ("x",), (samples.NAMES[at + 1],) if at < 5 else ("y",)))
                 for at, name in enumerate(samples.NAMES[:6])}
        self.assertEqual(reaching_sets(Net(knots, {"in": "c"}, ["x", "y"])), [(name,) for name in samples.NAMES[:6]])


class ShowingReaches(unittest.TestCase):
    """[24] What Reaches shows, and what it does not."""

    def setUp(self):
        self.net = Net({"a": ((), (("x",),) * 4), "b": ((), (("a",),) * 3)}, {"i": "a", "j": "b", "k": "b"}, ["x"])
        self.one, self.other = {"a": 0, "b": 0}, {"a": 3, "b": 2}

    def shows(self, balls, names=("a", "j", "b")):
        return Reaches(balls).shows(self.net, self.one, self.other, names)

    def test_balls_that_lead_there(self):
        self.assertEqual(plain.behind(self.net, {"a": 1, "j": 2}, self.one), self.other)
        for balls in ({"a": 1, "j": 2}, {"j": 2, "a": 1, "b": 0}, {"a": 5, "j": 2}, {"a": 1, "j": 14}, {"a": 1, "b": 1, "j": 1},
                      {"a": 0, "j": 11}, {"j": 11}, {"a": 1 + 4 * 10 ** 30, "j": 2 + 12 * 10 ** 30}):
            self.assertIs(self.shows(balls), True, balls)

    def test_a_ball_more_or_less(self):
        for name in ("a", "j", "b"):
            for off in (1, -1):
                balls = {"a": 1, "j": 2, "b": 12}
                self.assertIs(self.shows(balls), True)
                self.assertIs(self.shows({**balls, name: balls[name] + off}), False)
        self.assertIs(self.shows({"a": 1, "j": 2 + 10 ** 30}), False)
        self.assertIs(self.shows({}), False)

    def test_names_that_are_not_in_the_list(self):
        self.assertIs(self.shows({"i": 1, "j": 2}), False)
        self.assertIs(self.shows({"i": 0, "a": 1, "j": 2}), False)
        self.assertIs(self.shows({"a": 1, "k": 2}), False)
        self.assertIs(self.shows({"a": 1, "j": 2}, names=["a", "b"]), False)
        self.assertIs(self.shows({"a": 1, "b": 2}, names=["a", "b"]), True)
        for name in ("q", "x", ""):
            self.assertIs(self.shows({"a": 1, "j": 2, name: 0}), False)

    def test_numbers_below_nothing(self):
        self.assertIs(self.shows({"a": -3, "j": 2}), False)
        self.assertIs(self.shows({"a": 1, "j": 14, "b": -12}), False)

    def test_copies_and_equality(self):
        balls = {"a": 1}
        found = Reaches(balls)
        balls["a"] = 2
        self.assertEqual((found.balls, found, bool(found)), ({"a": 1}, Reaches({"a": 1}), True))
        for other in (Reaches({}), Reaches({"a": 2}), Barred({"a": 1}, 2), None):
            self.assertNotEqual(found, other)


class ShowingBarred(unittest.TestCase):
    """[24] What Barred shows, and what it does not."""

    def setUp(self):
        self.net = Net({"a": ((), (("x",),) * 4), "b": ((), (("a",),) * 3), "c": ((), (("x",),) * 6)},
                       {"i": "a", "j": "b", "k": "c"}, ["x"])
        self.one, self.other = self.net.start(), {"a": 1, "b": 0, "c": 3}

    def shows(self, weights, modulus, names=("a",), one=None, other=None):
        return Barred(weights, modulus).shows(self.net, one or self.one, other or self.other, names)

    def test_weights(self):
        # Six balls at c weigh nothing: three weigh half of the modulus. b's turn brings three balls to a.
        for weights, modulus in (({"a": 0, "b": 0, "c": 1}, 6), ({"c": 1, "b": 0, "a": 0}, 2), ({"a": 0, "b": 0, "c": 3}, 6),
                                 ({"a": 0, "b": 0, "c": -1}, 6), ({"a": 6, "b": -6, "c": 7}, 6), ({"a": 0, "b": 0, "c": 2}, 4),
                                 ({"a": 0, "b": 0, "c": 5}, 10), ({"a": 12 * 10 ** 30, "b": -4, "c": 6 * 10 ** 30 + 1}, 2),
                                 ({"a": 0, "b": 2, "c": 1}, 6)):
            self.assertIs(self.shows(weights, modulus), True, weights)

    def test_weights_changed_or_left_out(self):
        for weights in ({"a": 0, "b": 0, "c": 0}, {"a": 1, "b": 0, "c": 1}, {"a": 0, "b": 1, "c": 1}, {"a": 0, "b": 0, "c": 2},
                        {"b": 0, "c": 1}, {"a": 0, "c": 1}, {"a": 0, "b": 0}, {}, {"a": 0, "b": 0, "c": 1, "d": 0},
                        {"a": 0, "b": 0, "c": 1, "i": 0}, {"i": 0, "j": 0, "k": 1}):
            self.assertIs(self.shows(weights, 6), False, weights)

    def test_other_moduli(self):
        weights = {"a": 0, "b": 0, "c": 1}
        for modulus, expected in ((6, True), (2, True), (1, False), (0, False), (-6, False), (-2, False), (3, False), (4, False),
                                  (5, False), (12, False), (10 ** 30, False)):
            self.assertIs(self.shows(weights, modulus), expected, modulus)

    def test_names_that_weigh_something(self):
        weights = {"a": 0, "b": 0, "c": 1}
        for names, expected in ((["c"], False), (["k"], False), (["i", "j"], True), (["i", "k"], False), ([], True),
                                (["a", "b", "i"], True)):
            self.assertIs(self.shows(weights, 6, names), expected)
        self.assertIs(self.shows({"a": 3, "b": 7, "c": 0}, 12, ["c"]), True)
        self.assertIs(self.shows({"a": 3, "b": 7, "c": 0}, 12, ["c", "b"]), False)

    def test_what_weighs_nothing(self):
        weights = {"a": 0, "b": 0, "c": 1}
        self.assertIs(self.shows(weights, 6, other={"a": 3, "b": 2, "c": 0}), False)
        self.assertIs(self.shows(weights, 3), False)
        self.assertIs(self.shows(weights, 6, one=self.other, other=self.one), True)
        self.assertIs(self.shows(weights, 6, one=self.other, other=self.other), False)

    def test_copies_and_equality(self):
        weights = {"a": 1}
        found = Barred(weights, 3)
        weights["a"] = 2
        self.assertEqual((found.weights, found.modulus, found, bool(found)), ({"a": 1}, 3, Barred({"a": 1}, 3), False))
        for other in (Barred({"a": 2}, 3), Barred({"a": 1}, 4), Barred({}, 3), Reaches({"a": 1}), None):
            self.assertNotEqual(found, other)


class Wrong(unittest.TestCase):
    """[1], [24] Errors, those documented first ahead."""

    def calls(self):
        return (judge_reach, Reaches({}).shows, Barred({}, 2).shows)

    def test_nets(self):
        start = {"a": 0, "b": 0}
        for call in self.calls():
            samples.refuse_nets(self, ((call, (start, start, ["a"])), (call, (None, None, None))))
        samples.refuse_nets(self, ((fewest_to, (start, start, "a")), (fewest_to, (None, None, None)), (reaching_sets, ())))

    def test_standings_then_what_does_not_come_back_then_names(self):
        net = samples.told()
        start, gone = net.start(), {"a": 1, "b": 1}
        for call in self.calls():
            for last in (["a"], None, ["q"]):
                self.refused(call, net, start, gone, last)
        for last in ("a", None, "q"):
            self.refused(fewest_to, net, start, gone, last)

    def refused(self, call, net, start, gone, last):
        for wrong in samples.wrong_standings(net):
            for one, other in ((wrong, start), (start, wrong), (wrong, gone), (gone, wrong), (wrong, wrong)):
                with self.assertRaises(BadStanding):
                    call(net, one, other, last)
        for one, other in ((gone, start), (start, gone), (gone, gone)):
            with self.assertRaises(NotBack):
                call(net, one, other, last)

    def test_names(self):
        net = samples.told()
        start = net.start()
        for call in self.calls():
            for names in (None, "a", {"a": 1}, 3, {"a"}):
                with self.assertRaises(NoPart) as caught:
                    call(net, start, start, names)
                self.assertIsNone(caught.exception.name)
            for name in ("x", "q", "", 5, None, ["a"], ("a",)):
                for names in ([name], ["a", name, "q"], ("in", name), [name, "r"]):
                    with self.assertRaises(NoPart) as caught:
                        call(net, start, start, names)
                    self.assertEqual(caught.exception.name, name)
        for name in ("x", "q", "", 5, None, ["a"]):
            with self.assertRaises(NoPart) as caught:
                fewest_to(net, start, start, name)
            self.assertEqual(caught.exception.name, name)
        with self.assertRaises(NeverEnds):
            fewest_to(samples.endless()["itself"], {}, {}, "q")
        with self.assertRaises(BadNet):
            judge_reach({}, {}, {}, None)

    def test_nothing_is_changed(self):
        net, one, other, names = pair(), {"b": 1, "a": 0}, {"a": 1, "b": 2}, ["j", "a", "j"]
        judge_reach(net, one, other, names).balls.clear()
        fewest_to(net, one, other, "i")
        self.assertEqual((net, one, other, names), (pair(), {"b": 1, "a": 0}, {"a": 1, "b": 2}, ["j", "a", "j"]))
        self.assertIs(judge_reach(net, one, other, names).shows(net, one, other, names), True)

    def test_sums_and_balls_hold_together(self):
        net = pair()
        for one in plain.all_standings(net):
            for other in plain.all_standings(net):
                apart = {knot: sum_of(net, other)[knot] - sum_of(net, one)[knot] for knot in net.knots}
                balls = {knot: many % round_of(net, knot).many for knot, many in apart.items()}
                self.assertEqual(settle(net, balls, one).standing, other)
                self.assertIs(Reaches(balls).shows(net, one, other, ["a", "b"]), True)
