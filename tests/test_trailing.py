"""Outlets that never fall behind others by more than a number ([26])."""

import unittest
from itertools import product
from random import Random

from ballchutes.errors import BadBalls, BadNet, NeverEnds, NoPart
from ballchutes.evenness import judge_even
from ballchutes.nets import Net
from ballchutes.settling import settle
from ballchutes.trailing import Falls, Keeps, judge_behind, least_behind
from tests import plain, samples
from tests.test_evenness import row


def two():
    """A net with two inlets whose balls come to knots of their own, at one of which the first outlet gets more."""
    return Net({"a": ((), (("x",), ("y",))), "b": ((), (("x",), ("y",), ("y",), ("x", "x")))}, {"on": "b", "in": "a"},
               ["x", "y", "z"])


def lead_of(net, inlets, one, other):
    """By how much an outlet is ahead of another one behind balls at these inlets."""
    rows = plain.out_of(net, inlets, plain.start(net))
    places = [sorted(net.outlets).index(outlet) for outlet in (one, other)]
    return sum(row_[places[0]] - row_[places[1]] for row_ in rows)


def first_behind(net, one, other, most, longest):
    """The length of the shortest lists behind which an outlet is more than most behind, by trying all; or None."""
    for many in range(1, longest + 1):
        if any(lead_of(net, inlets, one, other) < -most for inlets in product(sorted(net.inlets), repeat=many)):
            return many
    return None


class Judging(unittest.TestCase):
    """[26] How far an outlet ever falls behind another one."""

    def test_the_example(self):
        net = Net({"a": ((), (("x",), ("y",), ("y",), ("x",)))}, {"i": "a"}, ["x", "y"])
        self.assertEqual([judge_behind(net, "x", "y", 0).inlets, bool(judge_behind(net, "x", "y", 1)),
                          least_behind(net, "x", "y"), least_behind(net, "y", "x")], [["i", "i", "i"], True, 1, 1])

    def test_never_behind_at_all(self):
        found = judge_behind(row("xy"), "x", "y", 0)
        self.assertEqual((bool(found), found.shows(row("xy"), "x", "y", 0)), (True, True))
        self.assertEqual((least_behind(row("xy"), "x", "y"), least_behind(row("xy"), "y", "x")), (0, 1))
        self.assertEqual(least_behind(row("xxy"), "x", "y"), 0)

    def test_further_and_further(self):
        self.assertIs(least_behind(row("xxy"), "y", "x"), None)
        self.assertIs(least_behind(two(), "y", "x"), None)
        for most in (0, 1, 17, 100):
            found = judge_behind(row("xxy"), "y", "x", most)
            self.assertEqual((bool(found), found.inlets), (False, ["in"] * len(found.inlets)))
            self.assertIs(found.shows(row("xxy"), "y", "x", most), True)
            self.assertEqual(lead_of(row("xxy"), found.inlets, "y", "x"), -most - 1)
        self.assertEqual(len(judge_behind(row("xxy"), "y", "x", 100).inlets), 299)

    def test_an_outlet_behind_itself(self):
        for net in (row("xy"), two(), samples.told(), samples.fronted()):
            for outlet in net.outlets:
                for most in (0, 100):
                    found = judge_behind(net, outlet, outlet, most)
                    self.assertEqual((bool(found), found.shows(net, outlet, outlet, most)), (True, True))
                self.assertEqual(least_behind(net, outlet, outlet), 0)

    def test_most_0_and_100(self):
        for most in (99, 100):
            for many, fits in ((99, True), (100, most == 100)):
                net = Net({"a": (tuple(("y",) * 4 for _ in range(12)), (("x",),)),
                           "b": (tuple(("y",) * 4 for _ in range(12)), (("x",),)),
                           "c": ((("y",) * (many - 96),), (("x",),))}, {"i": "a", "j": "b", "k": "c"}, ["x", "y"])
                found = judge_behind(net, "x", "y", most)
                self.assertEqual((bool(found), found.shows(net, "x", "y", most)), (fits, True))
                self.assertEqual(least_behind(net, "x", "y"), many)
        self.assertEqual(len(judge_behind(net, "x", "y", 0).inlets), 1)

    def test_more_than_a_hundred(self):
        """No number up to 100 has a Keeps there."""
        knots = {name: (tuple(("y",) * 4 for _ in range(12)), (("x",),)) for name in "bcd"}
        net = Net({"a": ((), (("b", "c", "d"),)), **knots}, {"i": "a"}, ["x", "y"])
        self.assertIs(least_behind(net, "x", "y"), None)
        self.assertEqual(len(judge_behind(net, "x", "y", 100).inlets), 9)

    def test_ahead_first_and_behind_then(self):
        """The way to fall behind leads over balls by which the outlet is ahead."""
        net = Net({"a": ((("x",),), (("b", "b"),)), "b": ((("y",),) * 4, (("x",),)), "c": ((), (("x",), ("y",)))},
                  {"in": "a", "on": "c"}, ["x", "y"])
        found = judge_behind(net, "x", "y", 2)
        self.assertEqual((bool(found), len(found.inlets), lead_of(net, found.inlets, "x", "y")), (False, 3, -3))
        self.assertEqual(found.inlets, ["in", "in", "in"])
        self.assertEqual(first_behind(net, "x", "y", 2, 4), 3)
        self.assertEqual(least_behind(net, "x", "y"), 3)

    def test_each_settled_ahead_of_the_next_one(self):
        """What comes out by one ball counts only together."""
        net = Net({"a": ((), (("y", "y", "x", "x"),))}, {"in": "a"}, ["x", "y"])
        self.assertEqual((least_behind(net, "x", "y"), least_behind(net, "y", "x")), (0, 0))

    def test_outlets_that_get_nothing(self):
        self.assertEqual(least_behind(two(), "x", "z"), 0)
        self.assertIs(least_behind(two(), "z", "y"), None)
        nothing = Net({"a": ((), ((),))}, {"in": "a"}, ["x", "y"])
        self.assertEqual((least_behind(nothing, "x", "y"), judge_behind(nothing, "x", "y", 0)), (0, Keeps([({"a": 0}, 0)])))

    def test_one_by_one(self):
        kinds = {True: 0, False: 0}
        for seed in range(300):
            net, dice = samples.made(seed), Random(seed)
            if len(net.outlets) < 2:
                continue
            one, other, most = dice.choice(net.outlets), dice.choice(net.outlets), dice.choice((0, 0, 1, 2))
            found = judge_behind(net, one, other, most)
            self.assertIs(found.shows(net, one, other, most), True)
            least = first_behind(net, one, other, most, 6)
            if found:
                self.assertIsNone(least)
                self.assertEqual({plain.key(standing) for standing, _ in found.heights},
                                 set(plain.led_to(net, net.inlets, net.start())))
            elif least is not None or len(found.inlets) <= 6:
                self.assertEqual(len(found.inlets), least)
                self.assertTrue(lead_of(net, found.inlets, one, other) < -most)
            kinds[bool(found)] += one != other
        self.assertTrue(min(kinds.values()) > 20, kinds)

    def test_the_least_number(self):
        kinds = {True: 0, False: 0}
        for seed in range(160):
            net, dice = samples.made(seed), Random(seed)
            if not net.outlets:
                continue
            one, other = dice.choice(net.outlets), dice.choice(net.outlets)
            least = least_behind(net, one, other)
            worths, others = plain.worths(net, one), plain.worths(net, other)
            self.assertIs(least is None, any(worths[knot] < others[knot] for knot in net.inlets.values()))
            kinds[least is None] += 1
            if least is not None:
                self.assertIs(judge_behind(net, one, other, least).shows(net, one, other, least), True)
                self.assertIs(bool(judge_behind(net, one, other, least)), True)
                self.assertIs(bool(judge_behind(net, one, other, least - 1)) if least else False, False)
        self.assertTrue(min(kinds.values()) > 25, kinds)

    def test_even_outlets(self):
        """Of even outlets the least number is how far behind the first one is at most."""
        for seed in range(120):
            net = samples.made(seed)
            for one in net.outlets:
                for other in net.outlets:
                    even = judge_even(net, one, other)
                    if even:
                        self.assertEqual((least_behind(net, one, other), least_behind(net, other, one)),
                                         (-even.least, even.most))
                    elif even.more > 0:
                        self.assertIs(least_behind(net, other, one), None)

    def test_a_thousand_standings(self):
        """A gate of a thousand, to which one inlet brings one ball and another one two."""
        ten = ((),) * 9
        net = Net({"a": ((), ten + (("b",),)), "b": ((), ten + (("c",),)), "c": ((), ten + (("y",),)), "d": ((), (("a", "a"),))},
                  {"i": "a", "j": "d"}, ["x", "y"])
        for most in (0, 100):
            found = judge_behind(net, "x", "y", most)
            self.assertEqual(found.inlets, ["j"] * (500 * (most + 1)))
            self.assertIs(found.shows(net, "x", "y", most), True)
        self.assertIs(least_behind(net, "x", "y"), None)
        self.assertEqual(least_behind(net, "y", "x"), 0)


class ShowingKeeps(unittest.TestCase):
    """[26] What Keeps shows, and what it does not."""

    def setUp(self):
        self.net = row("xyyx")
        self.heights = [({"a": 0}, 1), ({"a": 1}, 2), ({"a": 2}, 1), ({"a": 3}, 0)]

    def shows(self, heights, most=1, net=None, one="x", other="y"):
        return Keeps(heights).shows(net or self.net, one, other, most)

    def test_heights(self):
        self.assertIs(self.shows(self.heights), True)
        self.assertIs(self.shows(tuple(self.heights[::-1] * 2)), True)
        self.assertIs(self.shows(self.heights, most=100), True)
        found = judge_behind(self.net, "x", "y", 5)
        self.assertIs(found.shows(self.net, "x", "y", 5), True)
        # With room to spare, all heights may be higher.
        for more in (1, 2, 3, 4):
            self.assertIs(self.shows([(standing, height + more) for standing, height in self.heights], most=5), True)
        self.assertIs(self.shows([(standing, height + 5) for standing, height in self.heights], most=5), False)

    def test_too_high_at_the_start(self):
        self.assertIs(self.shows(self.heights, most=0), False)
        self.assertIs(self.shows([({"a": 0}, 2), *self.heights[1:]]), False)
        self.assertIs(self.shows([({"a": 0}, 10 ** 30), *self.heights[1:]], most=100), False)

    def test_below_nothing(self):
        self.assertIs(self.shows([(standing, height - 1) for standing, height in self.heights]), False)
        self.assertIs(self.shows([*self.heights, ({"a": 3}, -1)]), False)
        self.assertIs(self.shows([*self.heights[:3], ({"a": 3}, -1)]), False)
        self.assertIs(self.shows([(standing, -10 ** 30) for standing, _ in self.heights]), False)

    def test_one_off(self):
        for at, (standing, height) in enumerate(self.heights):
            for off in (1, -1):
                self.assertIs(self.shows(self.heights[:at] + [(standing, height + off)] + self.heights[at + 1:]), False)

    def test_pairs_left_out(self):
        for at in range(4):
            self.assertIs(self.shows(self.heights[:at] + self.heights[at + 1:]), False)
        self.assertIs(self.shows([]), False)
        self.assertIs(self.shows(self.heights[1:]), False)

    def test_standings_that_are_none(self):
        for wrong in ({}, {"a": 4}, {"a": -1}, {"b": 0}, {"a": 0, "b": 0}, {"a": 10 ** 30}):
            self.assertIs(self.shows([*self.heights, (wrong, 1)]), False)

    def test_a_standing_with_several_integers(self):
        self.assertIs(self.shows([({"a": 0}, 7), *self.heights, ({"a": 0}, 2), ({"a": 3}, 10 ** 30)]), True)
        self.assertIs(self.shows([*self.heights[1:], ({"a": 0}, 2), ({"a": 0}, 3)]), False)
        # A lower one needs lower ones behind it.
        self.assertIs(self.shows([*self.heights, ({"a": 0}, 0)]), False)
        self.assertIs(self.shows([*self.heights, ({"a": 1}, 1)]), False)

    def test_standings_that_are_not_reached(self):
        net = Net({"a": ((), (("x",), ("y",))), "b": ((), (("a",), ("a",)))}, {"in": "b"}, ["x", "y"])
        reached = [({"a": 0, "b": 0}, 0), ({"a": 1, "b": 1}, 1)]
        self.assertIs(self.shows(reached, 0, net), True)
        self.assertIs(self.shows([*reached, ({"a": 0, "b": 1}, 0), ({"a": 1, "b": 0}, 1)], 0, net), True)
        self.assertIs(self.shows([*reached, ({"a": 0, "b": 1}, 3), ({"a": 1, "b": 0}, 4)], 0, net), True)
        self.assertIs(self.shows([*reached, ({"a": 0, "b": 1}, 0)], 0, net), False)
        self.assertIs(self.shows([*reached, ({"a": 0, "b": 1}, 0), ({"a": 1, "b": 0}, 0)], 0, net), False)

    def test_other_outlets(self):
        self.assertIs(self.shows(self.heights, one="y", other="x"), False)
        self.assertIs(self.shows(self.heights, one="y", other="y"), False)
        self.assertIs(self.shows([({"a": at}, 1) for at in range(4)], one="y", other="y"), True)

    def test_copies_and_equality(self):
        standing = {"a": 0}
        heights = [(standing, 1)]
        found = Keeps(heights)
        standing["a"] = 5
        heights.clear()
        self.assertEqual((found.heights, found, bool(found)), ([({"a": 0}, 1)], Keeps((({"a": 0}, 1),)), True))
        for other in (Keeps([]), Keeps([({"a": 0}, 2)]), Keeps([({"a": 1}, 1)]), Falls([({"a": 0}, 1)]), None):
            self.assertNotEqual(found, other)
        found = judge_behind(self.net, "x", "y", 1)
        found.heights[0][0]["a"] = 9
        self.assertIs(found.shows(self.net, "x", "y", 1), False)
        self.assertIs(judge_behind(self.net, "x", "y", 1).shows(self.net, "x", "y", 1), True)


class ShowingFalls(unittest.TestCase):
    """[26] What Falls shows, and what it does not."""

    def shows(self, inlets, most=0, one="x", other="y"):
        return Falls(inlets).shows(two(), one, other, most)

    def test_lists_as_short_as_can_be(self):
        # Two balls at on bring x, y; a third one one more y. In: x, then y.
        self.assertIs(self.shows(["on", "on", "on"]), True)
        for inlets in (["on"], ["on", "on"], ["on", "on", "on", "in"], ["in", "on", "on", "on"], ["on", "on", "in"], [],
                       ["in", "in", "in"], ["on", "on", "on", "on"], ["in", "in", "on", "on", "on"]):
            self.assertIs(self.shows(inlets), False, inlets)
        self.assertIs(self.shows(["on", "on", "on"], most=1), False)
        for most in (1, 2, 100):
            self.assertIs(Falls(["on", "on", "on"]).shows(two(), "x", "y", most), False)

    def test_any_of_the_shortest(self):
        net = Net({"a": ((), (("x",), ("y", "y")))}, {"in": "a", "on": "a"}, ["x", "y"])
        for inlets in (["in", "in"], ["in", "on"], ["on", "in"], ("on", "on")):
            self.assertIs(Falls(inlets).shows(net, "x", "y", 0), True)

    def test_lists_as_long_that_do_not_lead_as_far(self):
        net = Net({"a": ((), (("y",), ("y",), ("x",), ("x",))), "b": ((), (("x", "y"),))}, {"in": "a", "on": "b"}, ["x", "y"])
        for inlets, expected in ((["in", "in"], True), (["in", "on"], False), (["on", "in"], False), (["on", "on"], False)):
            self.assertIs(Falls(inlets).shows(net, "x", "y", 1), expected)

    def test_names_that_are_no_inlets(self):
        for name in ("b", "x", "q", "", "z"):
            for at in range(3):
                inlets = ["on", "on", "on"]
                inlets[at] = name
                self.assertIs(self.shows(inlets), False)

    def test_other_outlets(self):
        self.assertIs(self.shows(["on"], one="y", other="x"), True)
        self.assertIs(self.shows(["in"], one="y", other="x"), True)
        self.assertIs(self.shows(["on"], one="z", other="x"), True)
        self.assertIs(self.shows(["on", "on"], one="z", other="y"), True)
        self.assertIs(self.shows(["on", "on", "on"], one="z", other="y"), False)
        self.assertIs(self.shows(["in"], one="x", other="x"), False)
        self.assertIs(self.shows([], one="x", other="x"), False)

    def test_copies_and_equality(self):
        inlets = ["in"]
        found = Falls(inlets)
        inlets.append("on")
        self.assertEqual((found.inlets, found, bool(found)), (["in"], Falls(("in",)), False))
        for other in (Falls([]), Falls(["on"]), Falls(["in", "in"]), Keeps([]), None):
            self.assertNotEqual(found, other)


class Wrong(unittest.TestCase):
    """[1], [26] Errors, those documented first ahead."""

    def test_errors(self):
        net = samples.told()
        for call in (judge_behind, Keeps([]).shows, Falls(["q"]).shows):
            samples.refuse_nets(self, ((call, ("x", "y", 1)), (call, ("q", "r", None))))
            for most in (1, -1, None, True):
                for name in ("a", "in", "q", "", None, 5, ["x"]):
                    for told in ((name, "x"), ("x", name), (name, "r")):
                        with self.assertRaises(NoPart) as caught:
                            call(net, *told, most)
                        self.assertEqual(caught.exception.name, name)
            for most in (-1, 101, True, False, None, "3", (1,), [1], 10 ** 30, -10 ** 30):
                with self.assertRaises(BadBalls):
                    call(net, "x", "y", most)
            with self.assertRaises(NeverEnds):
                call(samples.endless()["itself"], "q", "r", -1)
            with self.assertRaises(BadNet):
                call(None, "q", "r", -1)
        samples.refuse_nets(self, ((least_behind, ("x", "y")), (least_behind, (None, None))))
        for name in ("a", "in", "q", "", None, 5, ["x"]):
            for told in ((name, "x"), ("x", name), (name, "r")):
                with self.assertRaises(NoPart) as caught:
                    least_behind(net, *told)
                self.assertEqual(caught.exception.name, name)

    def test_nothing_is_changed(self):
        net = two()
        found = judge_behind(net, "x", "y", 3)
        settle(net, {"in": 1})
        self.assertIs(found.shows(net, "x", "y", 3), True)
        self.assertEqual(net, two())
