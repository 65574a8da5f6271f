"""Nets for shares ([14])."""

import unittest
from fractions import Fraction

from ballchutes.errors import BadNet, BadShares
from ballchutes.joining import renamed
from ballchutes.making import Made, least_wheels, made
from ballchutes.nets import Net
from tests import plain, samples

WRONG_SHARES = (None, [], ["x"], "x", 1, (("x", 1),), {}, {"x": 1, "y": 1, "z": 1, "v": 1}, {"in": 1}, {"x": 1, "in": 2},
                {"w": 1}, {"x": 1, "wheel": 1}, {"w1": 1}, {"X": 1}, {"": 1}, {"1": 1}, {"x" * 17: 1}, {"x y": 1}, {1: 1},
                {None: 1}, {("x",): 1}, {"x": 0}, {"x": -1}, {"x": 1, "y": 0}, {"x": True}, {"x": "1"}, {"x": None},
                {"x": (1, 2)}, {"x": 1, "y": 64}, {"x": 32, "y": 33}, {"x": 2, "y": 128}, {"x": 1, "y": 1, "z": 15},
                {"x": 3, "y": 3, "z": 45}, {"x": 5, "y": 6, "z": 7})
WRONG_WAYS = (None, 0, 1, 5, -2, True, "2", (2,))


def all_shares():
    """All shares of two names, of three names, and of one."""
    yield {"x": 1}
    for total in range(2, 65):
        for part in range(1, total):
            yield {"y": part, "x": total - part}
    for total in range(3, 17):
        for part in range(1, total - 1):
            for more in range(1, total - part):
                yield {"z": part, "x": more, "y": total - part - more}


def wheels(ways):
    """A net of wheels with so many ways, by which x gets 2 parts of 3."""
    turns = {2: ("vx", "ay"), 3: ("vvv", "xyx"), 4: ("xvyx", "aaaa")}[ways]
    knots = {name: ((), tuple((target,) for target in turn)) for name, turn in zip("av", turns)}
    return Net(knots, {"in": "a"}, ["x", "y"])


class Making(unittest.TestCase):
    """[14] Nets of wheels for all shares."""

    def test_all_shares_are_exact_and_need_few_wheels(self):
        for shares in all_shares():
            for ways in (2, 3, 4):
                net = made(shares, ways).net
                self.assertEqual((list(net.inlets), net.outlets), (["in"], tuple(sorted(shares))))
                self.assertTrue(least_wheels(shares, ways) <= len(net) <= 12)
                for front, turn in net.knots.values():
                    self.assertEqual((front, len(turn), {len(drop) for drop in turn}), ((), ways, {1}))

    def test_each_share_by_counting(self):
        for number, shares in enumerate(all_shares()):
            if number % 7 == 0:
                for ways in (2, 3, 4):
                    net, total = made(shares, ways).net, sum(shares.values())
                    self.assertTrue(plain.ends(net))
                    for name, part in shares.items():
                        self.assertEqual(plain.worths(net, name)[net.inlets["in"]], Fraction(part, total))

    def test_all_are_shown(self):
        for number, shares in enumerate(all_shares()):
            for ways in (2, 3, 4):
                if (number + ways) % 5 == 0:
                    self.assertIs(made(shares, ways).shows(shares, ways), True)

    def test_a_common_divisor(self):
        for shares in ({"x": 2, "y": 4}, {"y": 2 * 10 ** 30, "x": 10 ** 30}, {"x": 30 * 64, "y": 34 * 64},
                       {"a": 16, "b": 16, "c": 16}, {"x": 700}):
            for ways in (2, 3, 4):
                found = made(shares, ways)
                self.assertIs(found.shows(shares, ways), True)
                self.assertEqual(sorted(shares), list(found.net.outlets))
        self.assertIs(made({"x": 2, "y": 4}, 2).shows({"x": 3, "y": 6}, 2), True)

    def test_one_name_alone(self):
        for ways in (2, 3, 4):
            self.assertEqual(made({"out": 9}, ways).net.outlets, ("out",))
            self.assertIs(made({"out": 9}, ways).shows({"out": 1}, ways), True)
            self.assertEqual(least_wheels({"out": 9}, ways), 1)

    def test_names_of_all_kinds(self):
        for names in (("i", "inn", "in.x"), ("vw", "a0123456789.abcd", "k"), ("x.w", "y.w", "z.in")):
            shares = dict(zip(names, (5, 6, 5)))
            self.assertIs(made(shares, 3).shows(shares, 3), True)

    def test_the_least_number_of_wheels(self):
        for ways in (2, 3, 4):
            for total in range(2, 65):
                least = next(wheels for wheels in range(1, 9) if ways ** wheels >= total)
                self.assertEqual(least_wheels({"x": 1, "y": total - 1}, ways), least)
        self.assertEqual([least_wheels({"x": 63, "y": 1}, ways) for ways in (2, 3, 4)], [6, 4, 3])
        self.assertEqual([least_wheels({"x": 1, "y": 1, "z": 14}, ways) for ways in (2, 3, 4)], [4, 3, 2])
        self.assertEqual(least_wheels({"x": 300, "y": 100}, 2), 2)
        self.assertEqual(least_wheels({"x": 2, "y": 1}, 3), 1)

    def test_nothing_is_changed(self):
        shares = {"y": 2, "x": 4}
        made(shares, 2).net.knots.clear()
        least_wheels(shares, 2)
        self.assertEqual(list(shares.items()), [("y", 2), ("x", 4)])
        self.assertIs(made(shares, 2).shows(shares, 2), True)


class Showing(unittest.TestCase):
    """[14] What Made shows, and what it does not."""

    def test_other_nets_of_wheels(self):
        for ways in (2, 3, 4):
            for other in (2, 3, 4):
                self.assertIs(Made(wheels(ways)).shows({"x": 2, "y": 1}, other), ways == other)
        self.assertIs(Made(renamed(wheels(2), {"a": "other", "v": "k"})).shows({"y": 10, "x": 20}, 2), True)

    def test_other_shares(self):
        found = made({"x": 5, "y": 3}, 2)
        self.assertIs(found.shows({"y": 30, "x": 50}, 2), True)
        for shares in ({"x": 3, "y": 5}, {"x": 5, "y": 4}, {"x": 5}, {"y": 1}, {"x": 5, "z": 3}, {"x": 5, "y": 3, "z": 1}):
            self.assertIs(found.shows(shares, 2), False)
        for ways in (3, 4):
            self.assertIs(found.shows({"x": 5, "y": 3}, ways), False)

    def shows(self, knots, inlets=None, outlets=("x", "y")):
        return Made(Net(knots, inlets or {"in": "a"}, outlets)).shows({"x": 1, "y": 1}, 2)

    def test_one_thing_changed(self):
        split = ((), (("x",), ("y",)))
        self.assertIs(self.shows({"a": split}), True)
        self.assertIs(self.shows({"a": split}, {"on": "a"}), False)
        self.assertIs(self.shows({"a": split}, {"in": "a", "on": "a"}), False)
        self.assertIs(self.shows({"a": split}, None, ["x", "y", "z"]), False)
        self.assertIs(self.shows({"a": ((), (("x",), ("y",), ("x",), ("y",)))}), False)
        self.assertIs(self.shows({"a": ((("x",), ("y",)), (("x",), ("y",)))}), False)
        self.assertIs(self.shows({"a": ((), (("x", "y"), ()))}), False)
        self.assertIs(self.shows({"a": ((), (("x",), ("x",)))}), False)
        self.assertIs(self.shows({"a": ((), (("b",), ("c",))), "b": split, "c": split}), True)
        self.assertIs(self.shows({"a": ((), (("b",), ("c",))), "b": split, "c": ((), (("a",), ("b",)))}), True)
        self.assertIs(self.shows({"a": ((), (("b",), ("c",))), "b": split, "c": ((), (("a",), ("x",)))}), False)
        self.assertIs(self.shows({"a": ((), (("b",), ("c",))), "b": split, "c": ((), (("a", "b"), ()))}), False)
        self.assertIs(self.shows({"a": ((), (("b",), ("b",))), "b": ((), (("x",), ("y",), ("b",)))}), False)

    def test_nets_that_do_not_end(self):
        self.assertIs(self.shows({"a": ((), (("a",), ("a",)))}), False)
        self.assertIs(self.shows({"a": ((), (("b",), ("c",))), "b": ((), (("x",), ("y",))), "c": ((), (("c",), ("c",)))}),
                      False)

    def test_copies_and_equality(self):
        net = wheels(2)
        found = Made(net)
        net.knots.clear()
        self.assertEqual(found.net, wheels(2))
        self.assertEqual(found, Made(wheels(2)))
        for other in (Made(wheels(3)), None, wheels(2)):
            self.assertNotEqual(found, other)
        found.net = wheels(3)
        self.assertIs(found.shows({"x": 2, "y": 1}, 2), False)
        self.assertIs(found.shows({"x": 2, "y": 1}, 3), True)


class Wrong(unittest.TestCase):
    """[1], [14] What is refused."""

    def test_wrong_shares(self):
        for shares in WRONG_SHARES:
            given = repr(shares)
            for call in (made, least_wheels, Made(wheels(2)).shows, Made(samples.endless()["itself"]).shows):
                with self.assertRaises(BadShares):
                    call(shares, 2)
            self.assertEqual(repr(shares), given)

    def test_sums_that_are_just_small_enough(self):
        for shares in ({"x": 1, "y": 63}, {"x": 32, "y": 32}, {"x": 2, "y": 126}, {"x": 1, "y": 1, "z": 14},
                       {"x": 3, "y": 3, "z": 42}, {"x": 65, "y": 65}, {"x": 65}):
            self.assertIs(made(shares, 2).shows(shares, 2), True)

    def test_wrong_ways(self):
        for ways in WRONG_WAYS:
            for call in (made, least_wheels, Made(wheels(2)).shows):
                with self.assertRaises(BadShares):
                    call({"x": 2, "y": 1}, ways)

    def test_nets_that_are_none(self):
        for net in samples.NO_NETS:
            for shares in ({"x": 1}, None):
                with self.assertRaises(BadNet) as caught:
                    Made(net).shows(shares, 2)
                self.assertIsNone(caught.exception.name)
