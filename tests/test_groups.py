"""Standings that come back, as one group ([23])."""

import unittest
from math import gcd, prod
from random import Random

from ballchutes.errors import BadBalls, BadNet, BadStanding, NeverEnds, NotBack
from ballchutes.groups import factors, many_times, standing_with, sum_of
from ballchutes.nets import Net
from ballchutes.rounds import comes_back, first_back, many_back, round_of
from ballchutes.settling import settle
from tests import plain, samples


def mixed():
    """A net with fronts, and drops of several balls."""
    return Net({"a": ((("b", "b", "x"), ()), (("b", "a"), (), ("x", "b"))), "b": ((("a",),), ((), ("x", "a", "x"), ()))},
               {"in": "a"}, ["x"])


def side_by_side(*lengths):
    """A net of wheels, each with an inlet of its own."""
    knots = {name: ((), (("x",),) * length) for name, length in zip(samples.NAMES, lengths)}
    return Net(knots, {f"{name}.in": name for name in knots}, ["x"])


def sum_by_hand(net, standing):
    """What the drops ahead of the places of a standing are together."""
    sums = dict.fromkeys(sorted(net.knots), 0)
    for knot, place in standing.items():
        for at in range(place):
            sums[knot] += 1
            for target in plain.drop_at(net, knot, at):
                if target in sums:
                    sums[target] -= 1
    return sums


def few(seed):
    """A net made by a seed in which not many standings come back."""
    while True:
        net = samples.made(seed)
        if many_back(net) <= 60:
            return net
        seed += 1000


class Sums(unittest.TestCase):
    """[23] The sum of a standing."""

    def test_the_example(self):
        net = samples.told()
        self.assertEqual([factors(net), sum_of(net, {"a": 1, "b": 1}), standing_with(net, {"a": 4}),
                          many_times(net, {"a": 1, "b": 0}, 10 ** 30)],
                         [[3], {"a": 0, "b": 0}, {"a": 0, "b": 1}, {"a": 1, "b": 0}])

    def test_fronts_and_drops_of_several_balls(self):
        net = mixed()
        self.assertEqual(sum_of(net, net.start()), {"a": 0, "b": 0})
        self.assertEqual(sum_of(net, {"a": 1, "b": 0}), {"a": 1, "b": -2})
        self.assertEqual(sum_of(net, {"b": 0, "a": 2}), {"a": 2, "b": -2})
        self.assertEqual(sum_of(net, {"a": 3, "b": 0}), {"a": 2, "b": -3})
        self.assertEqual(sum_of(net, {"a": 4, "b": 3}), {"a": 3 - 2, "b": -3 + 3})
        self.assertEqual(list(sum_of(net, {"b": 1, "a": 4})), ["a", "b"])

    def test_one_by_one(self):
        for seed in range(60):
            net, dice = samples.made(seed), Random(seed)
            standing = samples.made_standing(net, dice)
            self.assertEqual(sum_of(net, standing), sum_by_hand(net, standing))

    def test_what_waits_and_the_sum_stay_the_same(self):
        """Up to whole turns, told by a net's standings that come back."""
        for seed in range(40):
            net, dice = few(seed), Random(seed)
            standing = samples.made_standing(net, dice)
            balls = {knot: dice.randint(0, 5) for knot in net.knots}
            behind = plain.behind(net, balls, standing)
            ones, others = sum_of(net, standing), sum_of(net, behind)
            self.assertEqual(standing_with(net, {knot: ones[knot] + balls[knot] for knot in net.knots}),
                             standing_with(net, others))


class Factors(unittest.TestCase):
    """[23] The numbers modulo which standings that come back are added."""

    def test_some_nets(self):
        for net, expected in ((side_by_side(2, 3), [6]), (side_by_side(2, 2), [2, 2]), (side_by_side(4, 6), [2, 12]),
                              (side_by_side(1, 1), []), (side_by_side(5), [5]), (side_by_side(2, 4, 8), [2, 4, 8]),
                              (side_by_side(6, 10, 12), [2, 6, 60]), (side_by_side(12, 12, 12), [12, 12, 12]),
                              (side_by_side(1, 3, 1), [3]), (samples.single(), [])):
            self.assertEqual(factors(net), expected)

    def test_one_standing_alone(self):
        net = Net({"a": ((("x",), ("b",)), (("b",),)), "b": ((), (("x",),))}, {"in": "a"}, ["x"])
        self.assertEqual((factors(net), many_back(net)), ([], 1))
        self.assertEqual(standing_with(net, {"a": 5}), first_back(net, net.start()))

    def test_products_and_divisors(self):
        several = 0
        for seed in range(120):
            net = samples.made(seed)
            found = factors(net)
            self.assertEqual(prod(found), many_back(net))
            self.assertTrue(all(other % one == 0 for one, other in zip(found, found[1:])))
            self.assertTrue(all(factor > 1 for factor in found))
            several += len(found) > 1
        self.assertTrue(several > 5, several)

    def test_as_many_standings_as_numbers_come_to_nothing_by_so_many_times(self):
        """A group is told by how many of its standings are the first one, so many times."""
        for seed in range(40):
            net = few(seed)
            back, first = plain.standings_back(net), first_back(net, net.start())
            self.assertEqual(prod(factors(net)), len(back))
            for many in range(2, 9):
                nothing = [standing for standing in back if many_times(net, standing, many) == first]
                self.assertEqual(len(nothing), prod(gcd(many, factor) for factor in factors(net)))

    def test_many_knots(self):
        self.assertEqual(factors(samples.walk()), [13])
        self.assertEqual(prod(factors(samples.twelve())), many_back(samples.twelve()))


class Adding(unittest.TestCase):
    """[23] Standings by their sums."""

    def test_nothing_added(self):
        for net in (samples.told(), mixed(), samples.gates(), side_by_side(2, 3)):
            first = first_back(net, net.start())
            self.assertEqual(standing_with(net, {}), first)
            self.assertEqual(standing_with(net, {knot: 0 for knot in net.knots}), first)

    def test_balls_that_are_dropped(self):
        for seed in range(60):
            net, dice = few(seed), Random(seed)
            numbers = {knot: dice.randint(0, 9) for knot in net.knots if dice.random() < 0.7}
            found = standing_with(net, numbers)
            self.assertEqual(found, plain.behind(net, numbers, first_back(net, net.start())))
            self.assertEqual(list(found), sorted(net.knots))

    def test_below_nothing_and_far(self):
        for seed in range(30):
            net, dice = few(seed), Random(seed)
            for far in (-1, -7, 10 ** 30, -10 ** 30, 10 ** 30 + 1):
                numbers = {knot: dice.choice((far, 0, 3, -far)) for knot in net.knots}
                found = standing_with(net, numbers)
                self.assertTrue(plain.comes_back(net, found))
                # What is taken back and given again leads to the same one.
                more = {knot: -numbers[knot] % round_of(net, knot).many for knot in net.knots}
                self.assertEqual(settle(net, more, found).standing, first_back(net, net.start()))

    def test_the_sum_is_as_told(self):
        for seed in range(40):
            net, dice = few(seed), Random(seed)
            for standing in plain.standings_back(net)[:10]:
                first = sum_of(net, first_back(net, net.start()))
                more = {knot: many - first[knot] for knot, many in sum_of(net, standing).items()}
                self.assertEqual(standing_with(net, more), standing)
                knot = dice.choice(list(net.knots))
                turn = {other: -sum(drop.count(other) for drop in net.knots[knot][1]) for other in net.knots}
                turn[knot] += len(net.knots[knot][1])
                times = dice.randint(-5, 5)
                self.assertEqual(standing_with(net, {other: more[other] + times * turn[other] for other in net.knots}), standing)

    def test_many_times(self):
        for seed in range(40):
            net, dice = few(seed), Random(seed)
            back, first = plain.standings_back(net), first_back(net, net.start())
            one = dice.choice(back)
            self.assertEqual(many_times(net, one, 0), first)
            self.assertEqual(many_times(net, one, 1), one)
            start = sum_of(net, first)
            more = {knot: many - start[knot] for knot, many in sum_of(net, one).items()}
            for many in (2, 3, -1, -4, 10 ** 30, -10 ** 30):
                found = many_times(net, one, many)
                self.assertEqual(found, standing_with(net, {knot: many * number for knot, number in more.items()}))
                self.assertTrue(comes_back(net, found))
            order = factors(net)[-1] if factors(net) else 1
            self.assertEqual(many_times(net, one, order), first)
            self.assertEqual(many_times(net, one, order * 10 ** 28 + 1), one)
            self.assertEqual(many_times(net, one, -1), many_times(net, one, order - 1))

    def test_ten_thousand(self):
        net = Net({"a": ((), ((),) * 9 + (("b",),)), "b": ((), ((),) * 9 + (("c",),)), "c": ((), ((),) * 9 + (("d",),)),
                   "d": ((), ((),) * 9 + (("x",),))}, {"in": "a"}, ["x"])
        self.assertEqual(factors(net), [10000])
        self.assertEqual(standing_with(net, {"a": -1}), {"a": 9, "b": 9, "c": 9, "d": 9})
        self.assertEqual(standing_with(net, {"d": 10 ** 30 + 3, "b": 10 ** 30 - 2}), {"a": 0, "b": 8, "c": 9, "d": 2})
        self.assertEqual(many_times(net, {"a": 3, "b": 2, "c": 1, "d": 0}, -1), {"a": 7, "b": 7, "c": 8, "d": 9})


class Wrong(unittest.TestCase):
    """[1], [23] Errors, those documented first ahead."""

    def test_nets(self):
        start = {"a": 0, "b": 0}
        samples.refuse_nets(self, ((sum_of, (start,)), (sum_of, (None,)), (factors, ()), (standing_with, ({"a": 1},)),
                                   (standing_with, (None,)), (many_times, (start, 1)), (many_times, (None, None))))

    def test_sums(self):
        for wrong in samples.wrong_standings(samples.told()):
            with self.assertRaises(BadStanding):
                sum_of(samples.told(), wrong)

    def test_numbers(self):
        for wrong in (None, [], 3, "a", [("a", 1)], {"in": 1}, {"q": 1}, {"x": 1}, {"a": True}, {"a": False}, {"a": "1"},
                      {"a": None}, {"a": 1, "in": 0}, {1: 1}, {None: 1}, {"a": (1, 1)}):
            with self.assertRaises(BadBalls):
                standing_with(samples.told(), wrong)

    def test_standings_then_what_does_not_come_back_then_integers(self):
        net = samples.told()
        for wrong in samples.wrong_standings(net):
            for many in (1, True, None):
                with self.assertRaises(BadStanding):
                    many_times(net, wrong, many)
        for many in (1, True, None, "2"):
            with self.assertRaises(NotBack):
                many_times(net, {"a": 1, "b": 1}, many)
        for many in (True, False, None, "2", (1,), [1]):
            with self.assertRaises(BadBalls):
                many_times(net, {"a": 1, "b": 0}, many)
        with self.assertRaises(NeverEnds):
            many_times(samples.endless()["itself"], {}, None)
        with self.assertRaises(BadNet):
            many_times(None, {}, None)

    def test_nothing_is_changed(self):
        net, standing, numbers = samples.told(), {"b": 1, "a": 0}, {"b": -5}
        sum_of(net, standing)["a"] = 9
        many_times(net, standing, 2)
        standing_with(net, numbers)
        self.assertEqual((net, standing, numbers), (samples.told(), {"b": 1, "a": 0}, {"b": -5}))
        self.assertEqual(list(standing), ["b", "a"])
