"""Knots that may start anywhere ([17])."""

import unittest
from itertools import combinations
from random import Random

from ballchutes.errors import BadNet, NoPart
from ballchutes.freeing import Bound, Free, free_sets, judge_free
from ballchutes.nets import Net
from ballchutes.settling import settle
from tests import plain, samples


def behind():
    """A net in which the knots behind the first one bring the same out from all places."""
    return Net({"a": ((), (("b",), ("c",))), "b": ((), (("x",), ("x",))), "c": ((("x",),), (("x",), ("x",)))}, {"in": "a"},
               ["x", "y"])


def second_free():
    """A net in which just the second one of two knots may start anywhere."""
    return Net({"a": ((), ((), ("b",))), "b": ((), (("x",), ("x",)))}, {"in": "a"}, ["x"])


def instead():
    """A net in which one of two knots does what the other one does not, so that not both may start anywhere."""
    once = ((("r",),), ((),))
    return Net({"a": ((), (("p", "q"),)), "p": once, "q": once, "r": ((("x",),), ((),))}, {"i": "a", "j": "r"}, ["x"])


def twice_instead():
    """A net in which one knot does what both of two other ones do not, and they do what it does not."""
    last = ((("x",),), ((),))
    knots = {"a": ((), (("p", "q", "s"),)), "p": ((("r",),), ((),)), "q": ((("r", "t"),), ((),)), "s": ((("t",),), ((),))}
    return Net({**knots, "r": last, "t": last}, {"i": "a", "j": "r", "k": "t"}, ["x"])


def all_starts(net, names):
    return [standing for standing in plain.all_standings(net)
            if all(place == 0 or knot in names for knot, place in standing.items())]


def same_out(net, one, other):
    """Whether the same comes out from two standings for all balls, by all pairs that lists of inlets lead to."""
    met, near = [], [(one, other)]
    while near:
        pair = near.pop()
        met.append(pair)
        for inlet in net.inlets:
            (row, first), (other_row, second) = (plain.row_behind(net, inlet, standing) for standing in pair)
            if row != other_row:
                return False
            if (first, second) not in met and (first, second) not in near:
                near.append((first, second))
    return True


def small(seed):
    """A net made by a seed, some knots of which bring nothing of their own about, with few standings."""
    dice = Random(seed)
    while True:
        net = samples.made(seed)
        knots = {knot: (front, turn if dice.random() < 0.5 else turn[:1] * len(turn))
                 for knot, (front, turn) in net.knots.items()}
        try:
            net = Net(knots, net.inlets, net.outlets)
        except BadNet:
            net = None
        if net is not None and plain.ends(net) and len(plain.all_standings(net)) <= 40:
            return net
        seed += 1000


class Judging(unittest.TestCase):
    """[17] Whether knots may start anywhere."""

    def test_the_example(self):
        net = Net({"a": ((), (("b",), ("c",))), "b": ((), (("x",),)), "c": ((), (("x",),))}, {"in": "a"}, ["x", "y"])
        self.assertEqual([free_sets(net), bool(judge_free(net, ["a"])),
                          bool(judge_free(Net({"a": ((), (("x",), ("y",)))}, {"in": "a"}, ["x", "y"]), ["a"]))],
                         [[("a", "b", "c")], True, False])

    def test_free(self):
        net = Net({"a": ((), (("x",), ("x",)))}, {"in": "a"}, ["x"])
        found = judge_free(net, ["a"])
        self.assertIs(bool(found), True)
        self.assertEqual(len(found.pairs), 4)
        self.assertIs(found.shows(net, ["a"]), True)
        self.assertIs(found.shows(net, ("a", "a")), True)
        self.assertTrue(all(list(one) == list(other) == ["a"] for one, other in found.pairs))

    def test_bound(self):
        net = Net({"a": ((), (("b",), ("x",))), "b": ((), (("x",), ("x",), ("y",)))}, {"in": "a"}, ["x", "y"])
        found = judge_free(net, ["b"])
        self.assertEqual((bool(found), list(found.standing), found.standing["a"], list(found.balls)),
                         (False, ["a", "b"], 0, ["in"]))
        self.assertIs(found.shows(net, ["b"]), True)

    def test_no_knots(self):
        for net in (samples.told(), samples.fronted(), samples.single()):
            for names in ([], ()):
                found = judge_free(net, names)
                self.assertEqual((bool(found), found.shows(net, names)), (True, True))
                self.assertIn((net.start(), net.start()), found.pairs)

    def test_knots_with_one_place(self):
        net = samples.single()
        self.assertEqual(judge_free(net, ["a"]), Free([({"a": 0}, {"a": 0})]))
        self.assertEqual(free_sets(net), [("a",)])

    def test_no_outlet_gets_anything(self):
        net = Net({"a": ((), ((), ("b",))), "b": (((),), ((), ("b",)))}, {"in": "a"}, ["x"])
        self.assertIs(judge_free(net, ["b", "a"]).shows(net, ["a", "b"]), True)
        self.assertEqual(free_sets(net), [("a", "b")])

    def test_one_by_one(self):
        kinds = {True: 0, False: 0}
        for seed in range(60):
            net, dice = small(seed), Random(seed)
            names = [knot for knot in net.knots if dice.random() < 0.5]
            expected = all(same_out(net, net.start(), standing) for standing in all_starts(net, names))
            dice.shuffle(names)
            found = judge_free(net, names)
            self.assertIs(bool(found), expected)
            self.assertIs(found.shows(net, names), True)
            kinds[expected] += len(names) > 0
            if not found:
                self.assertEqual((list(found.standing), list(found.balls)), (list(net.knots), list(net.inlets)))
                self.assertNotEqual(plain.rest(net, found.balls, found.standing)[1],
                                    plain.rest(net, found.balls, net.start())[1])
        self.assertTrue(min(kinds.values()) > 10, kinds)

    def test_far_more_starts_than_can_be_looked_at(self):
        knots = {name: ((("x",),) * 11 + (("y",),), ((samples.NAMES[at + 1] if at < 11 else "x",),))
                 for at, name in enumerate(samples.NAMES)}
        net = Net(knots, {"in": "a"}, ["x", "y"])
        self.assertIs(judge_free(net, list(samples.NAMES)).shows(net, list(samples.NAMES)), True)
        self.assertIs(Free([(net.start(), net.start())]).shows(net, list(samples.NAMES)), False)


class Sets(unittest.TestCase):
    """[17] The greatest sets of knots that may start anywhere together."""

    def test_some_nets(self):
        self.assertEqual(free_sets(behind()), [("a", "b", "c")])
        self.assertEqual(free_sets(second_free()), [("b",)])
        self.assertEqual(free_sets(samples.told()), [()])
        self.assertEqual(free_sets(Net({"a": ((), (("x",), ("y",))), "b": ((), (("x",), ("x",)))},
                                       {"in": "a", "on": "b"}, ["x", "y"])), [("b",)])

    def test_several_greatest_sets(self):
        self.assertEqual(free_sets(instead()), [("a", "p"), ("a", "q")])
        self.assertEqual(free_sets(instead()), self.expected(instead()))
        self.assertEqual(free_sets(twice_instead()), [("a", "p", "s"), ("a", "q")])
        self.assertEqual(free_sets(twice_instead()), self.expected(twice_instead()))
        for names, free in ((["p"], True), (["q", "a"], True), (["p", "q"], False), (["r"], False), (["a", "p", "q"], False)):
            found = judge_free(instead(), names)
            self.assertEqual((bool(found), found.shows(instead(), names)), (free, True))

    def expected(self, net):
        same = [standing for standing in plain.all_standings(net) if same_out(net, net.start(), standing)]
        free = [names for many in range(len(net.knots) + 1) for names in combinations(net.knots, many)
                if all(standing in same for standing in all_starts(net, names))]
        greatest = [names for names in free if not any(set(names) < set(other) for other in free)]
        return sorted(greatest, key=lambda names: (-len(names), names))

    def test_one_by_one(self):
        for seed in range(60):
            net = small(seed)
            found = free_sets(net)
            self.assertEqual(found, self.expected(net))
            self.assertTrue(all(isinstance(names, tuple) for names in found))

    def test_six_knots(self):
        knots = {name: ((), (("x",), ("x",), ("x",))) for name in "bcdef"}
        net = Net({"a": ((), tuple((name,) for name in "bcdef")), **knots}, {"in": "a"}, ["x", "y"])
        self.assertEqual(free_sets(net), [tuple("abcdef")])
        mixed = Net({**net.knots, "d": ((), (("x",), ("y",), ("x",)))}, {"in": "a"}, ["x", "y"])
        self.assertEqual(free_sets(mixed), [tuple("bcef")])


class ShowingFree(unittest.TestCase):
    """[17] What Free shows, and what it does not."""

    def setUp(self):
        self.net = behind()
        self.pairs = judge_free(self.net, ["b", "c"]).pairs

    def shows(self, pairs, names=("b", "c")):
        return Free(pairs).shows(self.net, names)

    def test_what_is_returned_and_other_orders(self):
        self.assertIs(self.shows(self.pairs), True)
        self.assertIs(self.shows(tuple(self.pairs[::-1]) + tuple(self.pairs[:3])), True)
        turned = [({"c": one["c"], "b": one["b"], "a": one["a"]}, other) for one, other in self.pairs]
        self.assertIs(self.shows(turned), True)
        self.assertIs(self.shows(self.pairs, ["b"]), True)
        self.assertIs(self.shows(self.pairs, []), True)

    def test_a_pair_left_out(self):
        for at in range(len(self.pairs)):
            self.assertIs(self.shows(self.pairs[:at] + self.pairs[at + 1:]), False)
        self.assertIs(self.shows([]), False)
        self.assertIs(self.shows([], []), False)
        start = self.net.start()
        self.assertIs(self.shows([pair for pair in self.pairs if pair != (start, start)]), False)

    def test_other_knots_are_not_shown(self):
        self.assertIs(self.shows(self.pairs, ["a"]), False)
        self.assertIs(self.shows(judge_free(self.net, ["a", "b", "c"]).pairs, ["a"]), True)

    def test_the_start_comes_first_in_its_pairs(self):
        net = Net({"a": ((("x",),), (("x",),))}, {"in": "a"}, ["x"])
        self.assertIs(Free([({"a": 0}, {"a": 0}), ({"a": 0}, {"a": 1}), ({"a": 1}, {"a": 1})]).shows(net, ["a"]), True)
        self.assertIs(Free([({"a": 0}, {"a": 0}), ({"a": 1}, {"a": 0}), ({"a": 1}, {"a": 1})]).shows(net, ["a"]), False)

    def test_pairs_from_which_unlike_balls_come_out(self):
        net = Net({"a": ((), (("x",), ("y",)))}, {"in": "a"}, ["x", "y"])
        every = [({"a": one}, {"a": other}) for one in range(2) for other in range(2)]
        self.assertIs(Free(every).shows(net, ["a"]), False)
        self.assertIs(Free(every).shows(net, []), False)
        self.assertIs(Free(every[:1] + every[3:]).shows(net, []), True)

    def test_standings_that_are_none(self):
        for wrong in ({}, {"a": 0, "b": 0}, {"a": 0, "b": 0, "c": 3}, {"a": -1, "b": 0, "c": 0}, {"a": 0, "b": 0, "d": 0},
                      {"a": 0, "b": 0, "c": 0, "d": 0}, {"a": 2, "b": 0, "c": 0}, {"in": 0, "b": 0, "c": 0}):
            for pair in ((wrong, self.net.start()), (self.net.start(), wrong)):
                self.assertIs(self.shows(self.pairs + [pair]), False)

    def test_copies_and_equality(self):
        one, other = {"a": 0}, {"a": 1}
        pairs = [(one, other)]
        found = Free(pairs)
        one["a"] = other["a"] = 5
        pairs.clear()
        self.assertEqual((found.pairs, Free((({"a": 0}, {"a": 1}),)).pairs), ([({"a": 0}, {"a": 1})],) * 2)
        self.assertEqual(found, Free([({"a": 0}, {"a": 1})]))
        for unlike in (Free([]), Free([({"a": 1}, {"a": 1})]), Bound({}, {}), None):
            self.assertNotEqual(found, unlike)
        told = judge_free(self.net, ["b"])
        told.pairs[0][0]["a"] = 1
        self.assertIs(judge_free(self.net, ["b"]).shows(self.net, ["b"]), True)


class ShowingBound(unittest.TestCase):
    """[17] What Bound shows, and what it does not."""

    def setUp(self):
        self.net = Net({"a": ((), (("b",), ("x",))), "b": ((), (("x",), ("x",), ("y",)))}, {"in": "a", "on": "b"},
                       ["x", "y"])

    def shows(self, standing, balls, names=("b",)):
        return Bound(standing, balls).shows(self.net, names)

    def test_all_balls_that_tell_and_no_others(self):
        for place in range(3):
            for many in range(8):
                for more in range(3):
                    balls = {"in": many, "on": more}
                    told = (settle(self.net, balls, {"a": 0, "b": place}).out != settle(self.net, balls).out)
                    self.assertIs(self.shows({"b": place, "a": 0}, balls), told)

    def test_some_inlets_alone_and_far_numbers(self):
        self.assertIs(self.shows({"a": 0, "b": 2}, {"on": 1}), True)
        self.assertIs(self.shows({"a": 0, "b": 2}, {"on": 3 * 10 ** 30 + 1}), True)
        self.assertIs(self.shows({"a": 0, "b": 2}, {"on": 3 * 10 ** 30}), False)
        self.assertIs(self.shows({"a": 0, "b": 2}, {}), False)

    def test_a_standing_that_differs_in_another_knot(self):
        self.assertIs(self.shows({"a": 1, "b": 2}, {"on": 1}), False)
        self.assertIs(self.shows({"a": 1, "b": 2}, {"on": 1}, ["a", "b"]), True)
        self.assertIs(self.shows({"a": 0, "b": 2}, {"on": 1}, ["a"]), False)
        self.assertIs(self.shows({"a": 0, "b": 2}, {"on": 1}, []), False)
        self.assertIs(self.shows({"a": 0, "b": 0}, {"on": 1}), False)

    def test_what_is_no_standing_and_no_balls(self):
        for standing in ({}, {"b": 2}, {"a": 0, "b": 3}, {"a": 0, "b": -1}, {"a": 0, "b": 2, "c": 0}, {"in": 0, "b": 2}):
            self.assertIs(self.shows(standing, {"on": 1}), False)
        for balls in ({"on": -1}, {"on": 1, "b": 0}, {"q": 1}, {"on": 1, "q": 0}, {"b": 1}):
            self.assertIs(self.shows({"a": 0, "b": 2}, balls), False)

    def test_copies_and_equality(self):
        standing, balls = {"a": 0}, {"in": 1}
        found = Bound(standing, balls)
        standing["a"], balls["in"] = 2, 2
        self.assertEqual((found.standing, found.balls, found), ({"a": 0}, {"in": 1}, Bound({"a": 0}, {"in": 1})))
        for other in (Bound({"a": 1}, {"in": 1}), Bound({"a": 0}, {"in": 2}), Free([]), None):
            self.assertNotEqual(found, other)
        found = judge_free(self.net, ["b"])
        found.balls = {"in": 0}
        self.assertIs(found.shows(self.net, ["b"]), False)


class Wrong(unittest.TestCase):
    """[1], [17] Errors, those documented first ahead."""

    def test_nets(self):
        for names in (["a"], ["q"], None):
            samples.refuse_nets(self, ((judge_free, (names,)), (Free([]).shows, (names,)), (Bound({}, {}).shows, (names,))))
        samples.refuse_nets(self, ((free_sets, ()),))

    def test_names(self):
        for call in (judge_free, Free([]).shows, Bound({}, {}).shows):
            for names in (None, "a", {"a": 1}, {"a"}, 5):
                with self.assertRaises(NoPart) as caught:
                    call(samples.told(), names)
                self.assertIsNone(caught.exception.name)
            for name in ("in", "x", "q", "", None, 5, ["a"]):
                for names in (["a", name, "r"], ("b", name)):
                    with self.assertRaises(NoPart) as caught:
                        call(samples.told(), names)
                    self.assertEqual(caught.exception.name, name)

    def test_nothing_is_changed(self):
        net, names = behind(), ["c", "b"]
        judge_free(net, names).shows(net, names)
        free_sets(net).clear()
        self.assertEqual((net, names), (behind(), ["c", "b"]))
