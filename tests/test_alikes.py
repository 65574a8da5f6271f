"""Nets that are alike ([12])."""

import unittest
from random import Random

from ballchutes.alikes import Alike, Told, judge_alike
from ballchutes.nets import Net
from ballchutes.settling import settle
from ballchutes.ways import ways
from tests import plain, samples


def row(targets, front=""):
    """A net of one knot that does drops of one target each."""
    return Net({"a": (tuple((sign,) for sign in front), tuple((sign,) for sign in targets))}, {"in": "a"}, ["x", "y"])


def both(targets="xx"):
    """A net in which balls at both inlets come to one knot."""
    return Net({"a": ((), (("c",),)), "b": ((), (("c",),)), "c": ((), tuple((sign,) for sign in targets))},
               {"in": "a", "on": "b"}, ["x", "y"])


def apart():
    """A net in which from each inlet alone the same comes out as in both("xxy"), for one and for two balls."""
    return Net({"a": ((), (("x",), ("x",), ("y",))), "b": ((), (("x",), ("x",), ("y",)))}, {"in": "a", "on": "b"},
               ["x", "y"])


class Judging(unittest.TestCase):
    """[12] Whether as many balls come out at each outlet."""

    def test_alike(self):
        found = judge_alike(row("xy"), row("xyxy"))
        self.assertEqual((found, bool(found)), (Alike([(0, 0), (1, 1), (0, 2), (1, 3)]), True))
        found = judge_alike(row("xyx"), row("xyx"))
        self.assertEqual(found, Alike([(0, 0), (1, 1), (2, 2)]))
        self.assertIs(found.shows(row("xyx"), row("xyx")), True)

    def test_other_knots_and_names(self):
        split = Net({"p": ((), (("q",), ("r",))), "q": ((), (("x",),)), "r": ((), (("y",),))}, {"in": "p"}, ["y", "x"])
        found = judge_alike(split, row("xy"))
        self.assertIs(bool(found), True)
        self.assertIs(found.shows(split, row("xy")), True)

    def test_told_with_as_few_as_can_be(self):
        found = judge_alike(row("xyx"), row("xy"))
        self.assertEqual((found, bool(found)), (Told({"in": 4}), False))
        self.assertEqual(judge_alike(row("xy"), row("yx")), Told({"in": 1}))
        self.assertEqual(judge_alike(row("xxxxxxxxxxxy"), row("xxxxxxxxxxxx")), Told({"in": 12}))

    def test_a_front_alone(self):
        self.assertEqual(judge_alike(row("xy"), row("xy", "xyy")), Told({"in": 3}))
        self.assertEqual(judge_alike(row("xy", "x"), row("yx")), Told({"in": 1}))
        found = judge_alike(row("xy", "x"), row("xy", "xxy"))
        self.assertEqual((found, found.shows(row("xy", "x"), row("xy", "xxy"))),
                         (Alike([(0, 0), (1, 1), (2, 2), (1, 3), (2, 4)]), True))

    def test_no_outlet_gets_anything(self):
        one = Net({"a": ((), ((), ()))}, {"in": "a"}, ["x", "y"])
        other = Net({"a": ((), (("b",),)), "b": ((("b",),), ((), (), ()))}, {"in": "a"}, ["x", "y"])
        self.assertIs(bool(judge_alike(one, other)), True)
        self.assertIs(judge_alike(one, other).shows(one, other), True)
        self.assertEqual(judge_alike(one, row("xy")), Told({"in": 1}))
        none = Net({"a": ((), ((),))}, {"in": "a"}, [])
        self.assertEqual(judge_alike(none, none), Alike([(0, 0)]))

    def test_balls_at_both_inlets_are_needed(self):
        one, other = both("xxy"), apart()
        found = judge_alike(one, other)
        self.assertIs(found.shows(one, other), True)
        self.assertEqual((sum(found.balls.values()), plain.fewest_telling(one, other, 3)), (3, 3))
        self.assertEqual((found.balls["in"] > 0, found.balls["on"] > 0, list(found.balls)), (True, True, ["in", "on"]))

    def test_all_inlets_are_told(self):
        one = Net({"a": ((), (("x",),)), "b": ((), (("x",),))}, {"on": "b", "in": "a"}, ["x"])
        other = Net({"a": ((), (("x",),)), "b": ((), (("x",), ()))}, {"on": "b", "in": "a"}, ["x"])
        found = judge_alike(one, other)
        self.assertEqual((found, list(found.balls)), (Told({"in": 0, "on": 2}), ["in", "on"]))

    def test_one_by_one(self):
        parted = 0
        for seed in range(150):
            one, dice = samples.made(seed), Random(seed)
            standing = samples.made_standing(one, dice)
            other = samples.begun(one, standing)
            found = judge_alike(one, other)
            self.assertIs(found.shows(one, other), True)
            if found:
                self.assertIsNone(plain.fewest_telling(one, other, 4))
                balls = {inlet: dice.randint(0, 30) for inlet in one.inlets}
                self.assertEqual(settle(one, balls).out, settle(other, balls).out)
            else:
                parted += 1
                many = sum(found.balls.values())
                self.assertEqual(plain.fewest_telling(one, other, min(many, 6)), many if many <= 6 else None)
                self.assertEqual(list(found.balls), list(one.inlets))
        self.assertTrue(20 < parted < 140)

    def test_many_pairs(self):
        one = Net({"a": ((), (("b",),) * 11 + (("x",),)), "b": ((), (("x",),) * 11)}, {"in": "a"}, ["x"])
        other = Net({"a": ((), (("b",),) * 7), "b": ((), (("c",),) * 9), "c": ((), (("x",),) * 5)}, {"in": "a"}, ["x"])
        found = judge_alike(one, other)
        self.assertEqual((bool(found), len(found.pairs) > 1000, found.shows(one, other)), (True, True, True))
        self.assertEqual(len(found.pairs), len(set(found.pairs)))


class ShowingAlike(unittest.TestCase):
    """[12] What Alike shows, and what it does not."""

    def setUp(self):
        self.one, self.other = row("xyx", "y"), row("xyxxyx", "y")
        self.pairs = judge_alike(self.one, self.other).pairs

    def shows(self, pairs):
        return Alike(pairs).shows(self.one, self.other)

    def test_what_is_returned_and_what_is_more(self):
        self.assertIs(self.shows(self.pairs), True)
        self.assertIs(self.shows(tuple(self.pairs[::-1])), True)
        self.assertIs(self.shows(self.pairs * 2), True)
        self.assertIs(Alike([(0, 0)]).shows(samples.single(), samples.single()), True)

    def test_more_pairs_that_keep_together(self):
        self.one = self.other = row("xyxxyx")
        self.assertIs(self.shows([(k, k) for k in range(6)]), True)
        self.assertIs(self.shows([(k, k) for k in range(6)] + [(k, (k + 3) % 6) for k in range(6)]), True)
        self.assertIs(self.shows([(k, k) for k in range(6)] + [(k, (k + 3) % 6) for k in range(5)]), False)
        self.assertIs(self.shows([(k, k) for k in range(6)] + [(k, (k + 1) % 6) for k in range(6)]), False)

    def test_a_pair_left_out(self):
        for pair in self.pairs:
            self.assertIs(self.shows([other for other in self.pairs if other != pair]), False)
        self.assertIs(self.shows([]), False)

    def test_pairs_of_unlike_standings_and_numbers_too_high(self):
        for wrong in ((0, 1), (1, 0), (1, 2), (0, 7), (4, 0), (0, 10 ** 30), (-1, -1), (-1, 6), (3, -1), (-4, 0), (0, -1),
                      (99, 99)):
            self.assertIs(self.shows(self.pairs + [wrong]), False)

    def test_the_first_pair_is_needed(self):
        one, other = row("xy"), row("yx")
        self.assertIs(Alike([(0, 1), (1, 0)]).shows(one, other), False)
        self.assertIs(Alike([(0, 1), (1, 0), (0, 0)]).shows(one, other), False)
        self.assertIs(Alike([(0, 0), (1, 1)]).shows(one, one), True)
        self.assertIs(Alike([(0, 0), (1, 1)]).shows(one, other), False)

    def test_both_inlets_count(self):
        one = Net({"a": ((), (("x",),)), "b": ((), (("x",), ("y",)))}, {"in": "a", "on": "b"}, ["x", "y"])
        self.assertIs(Alike([(0, 0)]).shows(one, one), False)
        self.assertIs(Alike([(0, 0), (1, 1)]).shows(one, one), True)

    def test_copies_and_equality(self):
        pairs = [(0, 0)]
        found = Alike(pairs)
        pairs.append((1, 1))
        self.assertEqual((found.pairs, found, Alike(((0, 0),)).pairs), ([(0, 0)], Alike(((0, 0),)), [(0, 0)]))
        for other in (Alike([]), Alike([(0, 0), (1, 1)]), Told({}), None, [(0, 0)]):
            self.assertNotEqual(found, other)
        found.pairs = []
        self.assertIs(found.shows(samples.single(), samples.single()), False)


class ShowingTold(unittest.TestCase):
    """[12] What Told shows, and what it does not."""

    def test_balls_that_tell_and_balls_that_do_not(self):
        one, other = row("xyx"), row("xy")
        for many in range(12):
            told = settle(one, {"in": many}).out != settle(other, {"in": many}).out
            self.assertIs(Told({"in": many}).shows(one, other), told)

    def test_few_are_not_asked_for(self):
        one, other = both("xxy"), apart()
        self.assertIs(Told({"in": 10 ** 20 + 1, "on": 10 ** 20}).shows(one, other), True)
        self.assertIs(Told({"on": 1, "in": 2}).shows(one, other), True)
        self.assertIs(Told({"in": 3, "on": 0}).shows(one, other), False)

    def test_other_dicts(self):
        one, other = both("xxy"), apart()
        self.assertIs(Told({"in": 2, "on": 1}).shows(one, other), True)
        for balls in ({}, {"in": 2}, {"on": 1}, {"in": 2, "on": 1, "q": 0}, {"in": 2, "on": 1, "a": 0}, {"in": 2, "on": -1},
                      {"in": -2, "on": -1}, {"in": 2, "b": 1}, {"in": 0, "on": 0}):
            self.assertIs(Told(balls).shows(one, other), False)
        self.assertIs(Told({"in": 2, "on": 1}).shows(one, one), False)
        other = Net({**one.knots, "a": ((), (("y",),))}, one.inlets, one.outlets)
        self.assertEqual([Told(balls).shows(one, other) for balls in ({"in": 1, "on": 0}, {"in": 1}, {"in": 1, "on": 0, "q": 0})],
                         [True, False, False])

    def test_copies_and_equality(self):
        balls = {"in": 1, "on": 2}
        found = Told(balls)
        balls["in"] = 5
        self.assertEqual((found.balls, found), ({"in": 1, "on": 2}, Told({"on": 2, "in": 1})))
        for other in (Told({"in": 1}), Told({"in": 2, "on": 2}), Alike([]), None, {"in": 1, "on": 2}):
            self.assertNotEqual(found, other)
        found.balls = {"in": 0, "on": 0}
        self.assertIs(found.shows(both("xxy"), apart()), False)


class Wrong(unittest.TestCase):
    """[1], [12] Errors, those documented first ahead."""

    def test_errors(self):
        for call in (judge_alike, Alike([(0, 0)]).shows, Alike([]).shows, Told({"in": 1}).shows, Told({}).shows):
            samples.refuse_pairs(self, call)

    def test_inlets_may_lead_elsewhere(self):
        knots = {"a": ((), (("b",),)), "b": ((), (("x",),))}
        one, other = Net(knots, {"in": "a", "on": "b"}, ["x"]), Net(knots, {"in": "b", "on": "a"}, ["x"])
        self.assertIs(bool(judge_alike(one, other)), True)

    def test_nothing_is_changed(self):
        one, other = samples.told(), samples.begun(samples.told(), {"a": 1, "b": 0})
        found = judge_alike(one, other)
        self.assertEqual(found, Told({"in": 2}))
        found.shows(one, other)
        self.assertEqual((one, other), (samples.told(), samples.begun(samples.told(), {"a": 1, "b": 0})))
        judge_alike(one, one).pairs.clear()
        self.assertEqual(len(judge_alike(one, one).pairs), len(ways(one)))
