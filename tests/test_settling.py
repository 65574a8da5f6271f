"""Balls ([3]), orders and what settles ([4])."""

import unittest
from itertools import islice
from random import Random

from ballchutes.errors import BadBalls, BadNet, BadOrder, BadStanding, NeverEnds
from ballchutes.nets import Net
from ballchutes.settling import Settled, knots_in_turn, played, settle
from tests import plain, samples

WRONG_BALLS = (None, [], [("in", 1)], "in", 1, {"q": 1}, {"x": 1}, {"in": -1}, {"in": True}, {"in": "1"}, {"in": None},
               {1: 1}, {None: 0}, {"in": 1, "a": -1}, {"in": (1,)})


def first_knot(*told):
    """Asks for the first of the knots in turn, where errors come."""
    return next(knots_in_turn(*told))


def shown(*told):
    return Settled({}, {}, {}, []).shows(*told)


def played_none(net, balls, standing=None):
    return played(net, balls, [], standing)


class Settling(unittest.TestCase):
    """[4] What is so when no ball waits."""

    def test_the_example(self):
        found = settle(samples.told(), {"in": 10})
        self.assertEqual([found.out, found.taken, found.standing, list(knots_in_turn(samples.told(), {"in": 1}))],
                         [{"x": 7, "y": 3}, {"a": 14, "b": 7}, {"a": 0, "b": 1}, ["a", "b", "a"]])

    def test_any_order_comes_to_the_same(self):
        for seed in range(60):
            net, dice = samples.made(seed), Random(seed)
            names = [*net.inlets, *net.knots]
            balls = {name: dice.randint(0, 5) for name in names if dice.random() < 0.7}
            standing = samples.made_standing(net, dice)
            found = settle(net, balls, standing)
            for choose in (min, max, dice.choice):
                self.assertEqual((found.taken, found.out, found.standing), plain.rest(net, balls, standing, choose))
            self.assertTrue(found.shows(net, balls, standing))
            self.assertEqual(played(net, balls, found.order, standing), ({}, found.out, found.standing))

    def test_dicts_are_ascending(self):
        net = samples.fronted()
        found = settle(net, {"left": 3, "in": 20}, {"b": 1, "a": 2})
        self.assertEqual([list(found.taken), list(found.out), list(found.standing)],
                         [["a", "b"], ["x", "y", "z"], ["a", "b"]])
        self.assertIsInstance(found.order, list)

    def test_no_balls(self):
        net = samples.told()
        for balls in ({}, {"in": 0}, {"a": 0, "b": 0}):
            self.assertEqual(settle(net, balls), Settled({"a": 0, "b": 0}, {"x": 0, "y": 0}, net.start(), []))
        self.assertEqual(settle(net, {}, {"b": 1, "a": 1}).standing, {"a": 1, "b": 1})
        self.assertEqual(list(knots_in_turn(net, {})), [])
        self.assertEqual(played(net, {}, ()), ({}, {"x": 0, "y": 0}, {"a": 0, "b": 0}))

    def test_balls_at_inlets_and_knots_come_together(self):
        net = samples.fronted()
        self.assertEqual(settle(net, {"in": 2, "a": 3, "left": 1, "b": 4}).out, settle(net, {"a": 5, "b": 5}).out)
        self.assertEqual(played(net, {"left": 1, "in": 2, "a": 3}, [])[0], {"a": 5, "b": 1})

    def test_a_standing_that_is_told_and_none(self):
        net = samples.told()
        self.assertEqual(settle(net, {"in": 1}).out, {"x": 1, "y": 0})
        self.assertEqual(settle(net, {"in": 1}, None), settle(net, {"in": 1}, {"a": 0, "b": 0}))
        self.assertEqual(settle(net, {"in": 1}, {"a": 1, "b": 0}).out, {"x": 1, "y": 0})
        self.assertEqual(settle(net, {"in": 1}, {"a": 0, "b": 1}).out, {"x": 0, "y": 1})
        self.assertEqual(settle(net, {"in": 1}, {"a": 1, "b": 0}).standing, {"a": 0, "b": 0})

    def test_very_large_numbers(self):
        many = 3 * 10 ** 60
        found = settle(samples.told(), {"in": many + 1})
        self.assertEqual(found.out, {"x": many // 3 * 2 + 1, "y": many // 3})
        self.assertTrue(found.shows(samples.told(), {"in": many + 1}))
        walk = settle(samples.walk(), {"in": 13 * 10 ** 30})
        self.assertEqual(walk.out, {"left": 7 * 10 ** 30, "right": 6 * 10 ** 30})
        self.assertTrue(walk.shows(samples.walk(), {"in": 13 * 10 ** 30}))

    def test_twelve_knots_of_four(self):
        name = "a0123456789.abcd"
        self.assertEqual(settle(samples.twelve(), {name: 1}).out, {"out": 37})
        net = Net({knot: ((), ((samples.NAMES[at + 1] if at < 11 else "x",) * 4,))
                   for at, knot in enumerate(samples.NAMES)}, {"in": "a"}, ["x"])
        self.assertEqual(settle(net, {"in": 10}).out, {"x": 10 * 4 ** 12})

    def test_ten_thousand_rounds(self):
        rows = [((), ((knot,),) * 11 + ((behind,),)) for knot, behind in ("ab", "bc", "cx")]
        net = Net(dict(zip("abc", rows)), {"in": "a"}, ["x"])
        found = settle(net, {"in": 10 ** 9}, {"a": 3, "b": 5, "c": 7})
        self.assertEqual(found.out, {"x": 10 ** 9})
        self.assertTrue(found.shows(net, {"in": 10 ** 9}, {"a": 3, "b": 5, "c": 7}))


class Showing(unittest.TestCase):
    """[4] What Settled shows, and what it does not."""

    def setUp(self):
        self.net, self.balls, self.standing = samples.fronted(), {"in": 20, "b": 1}, {"a": 1, "b": 0}
        self.found = settle(self.net, self.balls, self.standing)

    def shows(self, balls=None, **changes):
        told = {"taken": self.found.taken, "out": self.found.out, "standing": self.found.standing,
                "order": self.found.order, **changes}
        return Settled(**told).shows(self.net, self.balls if balls is None else balls, self.standing)

    def test_what_is_returned_is_shown(self):
        self.assertIs(self.shows(), True)
        self.assertIs(self.found.shows(self.net, {"in": 10, "a": 10, "left": 1}, dict(self.standing)), True)

    def test_any_order_will_do(self):
        one_by_one = [(knot, 1) for knot in knots_in_turn(self.net, self.balls, self.standing)]
        self.assertIs(self.shows(order=one_by_one), True)
        self.assertIs(self.shows(order=tuple(one_by_one)), True)
        self.assertNotEqual(one_by_one, self.found.order)

    def test_other_numbers_are_not_shown(self):
        found = self.found
        for name in ("taken", "out", "standing"):
            told = getattr(found, name)
            for key in told:
                for off in (1, -1):
                    self.assertIs(self.shows(**{name: {**told, key: told[key] + off}}), False)
                self.assertIs(self.shows(**{name: {one: told[one] for one in told if one != key}}), False)
            self.assertIs(self.shows(**{name: {**told, "q": 0}}), False)
            self.assertIs(self.shows(**{name: {}}), False)

    def test_other_orders_are_not_shown(self):
        order = self.found.order
        self.assertIs(self.shows(order=order[:-1]), False)
        self.assertIs(self.shows(order=order[1:]), False)
        self.assertIs(self.shows(order=order + [("a", 1)]), False)
        self.assertIs(self.shows(order=[]), False)
        self.assertIs(self.shows(order=order[:2] + [("a", 0)] + order[2:]), False)
        self.assertIs(self.shows(order=order[:2] + [("a", -1), ("a", 1)] + order[2:]), False)
        self.assertIs(self.shows(order=[("q", 1)] + order), False)
        self.assertIs(self.shows(order=[("in", 20)] + order), False)
        for place, (knot, many) in enumerate(order):
            self.assertIs(self.shows(order=order[:place] + [(knot, many + 1)] + order[place + 1:]), False)

    def test_other_balls_and_standings_are_not_shown(self):
        self.assertIs(self.shows(balls={"in": 21, "b": 1}), False)
        self.assertIs(self.shows(balls={"in": 20}), False)
        self.assertIs(self.found.shows(self.net, self.balls), False)
        self.assertIs(settle(self.net, {"in": 5}).shows(self.net, {"in": 5}), True)
        self.assertIs(settle(self.net, {"in": 5}).shows(self.net, {"in": 5}, self.standing), False)

    def test_attributes_that_are_changed_count(self):
        self.found.out = {**self.found.out, "x": self.found.out["x"] + 1}
        self.assertIs(self.found.shows(self.net, self.balls, self.standing), False)

    def test_a_net_that_does_not_end_may_have_orders_that_settle(self):
        net = Net({"a": ((("x",),), (("a",),))}, {"in": "a"}, ["x"])
        self.assertIs(Settled({"a": 1}, {"x": 1}, {"a": 1}, [("a", 1)]).shows(net, {"in": 1}), True)
        self.assertIs(Settled({"a": 2}, {"x": 1}, {"a": 1}, [("a", 1), ("a", 1)]).shows(net, {"in": 2}), False)
        self.assertEqual(played(net, {"in": 2}, [("a", 2)]), ({"a": 1}, {"x": 1}, {"a": 1}))

    def test_copies_and_equality(self):
        taken, out, standing, order = {"a": 1}, {"x": 1}, {"a": 0}, [("a", 1)]
        found = Settled(taken, out, standing, order)
        taken["a"], out["x"], standing["a"] = 2, 2, 2
        order.append(("a", 1))
        self.assertEqual((found.taken, found.out, found.standing, found.order),
                         ({"a": 1}, {"x": 1}, {"a": 0}, [("a", 1)]))
        same = Settled({"a": 1}, {"x": 1}, {"a": 0}, (("a", 1),))
        self.assertEqual(found, same)
        self.assertEqual(same.order, [("a", 1)])
        for other in (Settled({"a": 2}, {"x": 1}, {"a": 0}, [("a", 1)]), Settled({"a": 1}, {}, {"a": 0}, [("a", 1)]),
                      Settled({"a": 1}, {"x": 1}, {"a": 1}, [("a", 1)]), Settled({"a": 1}, {"x": 1}, {"a": 0}, []),
                      None, ({"a": 1}, {"x": 1}, {"a": 0}, [("a", 1)])):
            self.assertNotEqual(found, other)


class Playing(unittest.TestCase):
    """[4] What is so behind an order."""

    def test_behind_some_steps(self):
        net = samples.told()
        self.assertEqual(played(net, {"in": 5}, [("a", 3)]), ({"a": 2, "b": 2}, {"x": 1, "y": 0}, {"a": 1, "b": 0}))
        self.assertEqual(played(net, {"in": 5}, (("a", 3), ("b", 1), ("a", 2)), {"a": 1, "b": 1}),
                         ({"b": 1}, {"x": 3, "y": 1}, {"a": 0, "b": 0}))

    def test_a_ball_that_falls_back_waits(self):
        net = Net({"a": ((), (("a", "a"), ("x",), ()))}, {"in": "a"}, ["x"])
        self.assertEqual(played(net, {"in": 1}, [("a", 1)]), ({"a": 2}, {"x": 0}, {"a": 1}))
        with self.assertRaises(BadOrder) as caught:
            played(net, {"in": 1}, [("a", 2)])
        self.assertEqual(caught.exception.place, 0)

    def test_balls_that_wait_are_ascending_and_no_others_are_told(self):
        net = samples.walk()
        waits, out, standing = played(net, {"l": 1, "c": 2, "in": 3, "a": 0, "b": 1}, [("b", 1)])
        self.assertEqual(list(waits.items()), [("a", 1), ("c", 2), ("f", 3), ("l", 1)])
        self.assertEqual((list(out.items()), list(standing)), ([("left", 0), ("right", 0)], list(samples.NAMES)))
        self.assertEqual(standing["b"], 1)

    def test_one_after_the_other_and_at_once(self):
        for seed in range(30):
            net, dice = samples.made(seed), Random(seed)
            standing = samples.made_standing(net, dice)
            knot, many = dice.choice(sorted(net.knots)), dice.randint(2, 9)
            self.assertEqual(played(net, {knot: many}, [(knot, many)], standing),
                             played(net, {knot: many}, [(knot, 1)] * many, standing))

    def test_no_order_has_a_knot_take_more(self):
        for seed in range(30):
            net, dice = samples.made(seed), Random(seed)
            balls = {knot: dice.randint(0, 4) for knot in net.knots}
            most = settle(net, balls).taken
            steps = list(knots_in_turn(net, balls))
            steps = [(knot, 1) for knot in steps[:dice.randint(0, len(steps))]]
            waits, _, standing = played(net, balls, steps)
            done = {knot: steps.count((knot, 1)) for knot in net.knots}
            more = settle(net, waits, standing).taken
            self.assertEqual({knot: done[knot] + more[knot] for knot in done}, most)

    def test_wrong_orders(self):
        net = samples.told()
        for order in (None, {}, {"a": 1}, "a", 1, {("a", 1)}, iter([("a", 1)])):
            with self.assertRaises(BadOrder) as caught:
                played(net, {"in": 5}, order)
            self.assertIsNone(caught.exception.place)
        for step in (None, "a", "ab", 1, [], (), ("a",), ["a", 1], ("a", 1, 1), ("a", 0), ("a", -1), ("a", True),
                     ("a", None), ("a", "1"), ("q", 1), ("x", 1), ("in", 1), (["a"], 1), (None, 1), ("a", 5), ("b", 3),
                     (1, 1)):
            for order in ([("a", 2), step, None], (("a", 2), step)):
                with self.assertRaises(BadOrder) as caught:
                    played(net, {"in": 5, "b": 1}, order)
                self.assertEqual(caught.exception.place, 1)

    def test_a_refused_order_changes_nothing(self):
        net, balls, standing, order = samples.told(), {"in": 5}, {"a": 1, "b": 0}, [("a", 2), ("a", 9)]
        with self.assertRaises(BadOrder):
            played(net, balls, order, standing)
        self.assertEqual((net, balls, standing, order),
                         (samples.told(), {"in": 5}, {"a": 1, "b": 0}, [("a", 2), ("a", 9)]))


class InTurn(unittest.TestCase):
    """[4] The knots that take a ball, always the first one at which one waits."""

    def test_always_the_first_one(self):
        for seed in range(30):
            net, dice = samples.made(seed), Random(seed)
            balls = {name: dice.randint(0, 3) for name in [*net.inlets, *net.knots]}
            standing = samples.made_standing(net, dice)
            done = []

            def first(waiting):
                done.append(min(waiting))
                return min(waiting)
            plain.rest(net, balls, standing, first)
            self.assertEqual(list(knots_in_turn(net, balls, standing)), done)

    def test_far_more_balls_than_are_asked_for(self):
        knots = knots_in_turn(samples.told(), {"in": 10 ** 50, "b": 10 ** 50}, {"a": 1, "b": 0})
        self.assertEqual(list(islice(knots, 4)), ["a", "a", "a", "a"])
        knots = knots_in_turn(samples.told(), {"in": 1, "b": 10 ** 50}, {"a": 1, "b": 0})
        self.assertEqual(list(islice(knots, 6)), ["a", "b", "a", "b", "b", "a"])

    def test_what_is_given_may_change_behind_the_first_one(self):
        balls, standing = {"in": 2}, {"a": 0, "b": 0}
        knots = knots_in_turn(samples.told(), balls, standing)
        got = [next(knots)]
        balls["in"], standing["a"] = 0, 1
        self.assertEqual(got + list(knots), ["a", "a", "b", "a", "b"])

    def test_errors_come_when_the_first_one_is_asked_for(self):
        for told in ((None, {}), (samples.told(), None), (samples.told(), {}, 5), (samples.endless()["itself"], {})):
            knots = knots_in_turn(*told)
            with self.assertRaises(ValueError):
                next(knots)


class Wrong(unittest.TestCase):
    """[1], [4] Errors, those documented first ahead."""

    def test_no_nets(self):
        for net in samples.NO_NETS:
            for call in (settle, played_none, first_knot, shown):
                with self.assertRaises(BadNet) as caught:
                    call(net, None, 5)
                self.assertIsNone(caught.exception.name)

    def test_nets_that_do_not_end(self):
        for net in samples.endless().values():
            for call in (settle, first_knot):
                with self.assertRaises(NeverEnds):
                    call(net, {}, None)
                with self.assertRaises(NeverEnds):
                    call(net, None, 5)
            self.assertEqual(played(net, {}, [])[0], {})

    def test_wrong_balls(self):
        for balls in WRONG_BALLS:
            for call in (settle, played_none, first_knot, shown):
                with self.assertRaises(BadBalls):
                    call(samples.told(), balls)
                with self.assertRaises(BadBalls):
                    call(samples.told(), balls, 5)
            with self.assertRaises(BadBalls):
                played(samples.told(), balls, None, 5)
        with self.assertRaises(BadBalls):
            shown(samples.endless()["itself"], None)

    def test_wrong_standings(self):
        for standing in samples.wrong_standings(samples.told()):
            for call in (settle, played_none, first_knot, shown):
                with self.assertRaises(BadStanding):
                    call(samples.told(), {"in": 1}, standing)
            with self.assertRaises(BadStanding):
                played(samples.told(), {"in": 1}, None, standing)

    def test_what_is_given_is_neither_changed_nor_kept(self):
        net, balls, standing = samples.told(), {"in": 3, "b": 1}, {"b": 1, "a": 0}
        for call in (settle, played_none):
            call(net, balls, standing)
            self.assertEqual((net, balls, list(standing.items())),
                             (samples.told(), {"in": 3, "b": 1}, [("b", 1), ("a", 0)]))
        found = settle(net, {}, standing)
        found.standing["a"] = 1
        played(net, {}, [], standing)[2]["a"] = 1
        self.assertEqual(standing, {"a": 0, "b": 1})
        self.assertEqual(settle(net, {}, standing).standing, {"a": 0, "b": 1})
