"""Shares ([8])."""

import unittest
from fractions import Fraction

from ballchutes.errors import NoPart
from ballchutes.nets import Net
from ballchutes.rounds import first_back, round_of
from ballchutes.settling import settle
from ballchutes.shares import Shares, gained, share_of, shares
from tests import plain, samples


class Sharing(unittest.TestCase):
    """[8] What balls are worth at an outlet."""

    def test_the_example(self):
        net = samples.told()
        self.assertEqual([share_of(net, "in", "x"), gained(net, "in", "x")], [(2, 3), (2, 3)])
        self.assertEqual(shares(net, "x"), Shares({"a": (2, 3), "b": (1, 3)}))
        self.assertEqual(shares(net, "y"), Shares({"a": (1, 3), "b": (2, 3)}))

    def test_one_by_one(self):
        for seed in range(100):
            net = samples.made(seed)
            for outlet in net.outlets:
                found = shares(net, outlet)
                self.assertEqual({knot: Fraction(*worth) for knot, worth in found.worths.items()},
                                 plain.worths(net, outlet))
                self.assertEqual(list(found.worths), list(net.knots))
                self.assertIs(found.shows(net, outlet), True)
                for name in [*net.knots, *net.inlets]:
                    worth = share_of(net, name, outlet)
                    self.assertEqual(worth, found.worths[net.inlets.get(name, name)])
                    self.assertEqual((Fraction(*worth).numerator, Fraction(*worth).denominator), worth)

    def test_what_comes_out_in_whole_rounds(self):
        for seed in range(60):
            net = samples.made(seed)
            back = first_back(net, net.start())
            for name in [*net.knots, *net.inlets]:
                many = round_of(net, name).many
                out = settle(net, {name: many}, back).out
                for outlet in net.outlets:
                    self.assertEqual(gained(net, name, outlet), (out[outlet], many))

    def test_a_round_may_have_a_common_divisor_a_share_has_none(self):
        net = Net({"a": ((), (("x",), ("x", "x"), ("y",), ()))}, {"in": "a"}, ["x", "y", "z"])
        self.assertEqual([gained(net, "in", "x"), gained(net, "a", "y"), gained(net, "in", "z")], [(3, 4), (1, 4), (0, 4)])
        net = Net({"a": ((), (("x",), ("y",), ("x",), ("y",)))}, {"in": "a"}, ["x", "y"])
        self.assertEqual([gained(net, "in", "x"), share_of(net, "in", "x")], [(2, 4), (1, 2)])

    def test_an_outlet_that_nothing_reaches(self):
        net = Net({"a": ((("z",),), (("b",), ("x",))), "b": ((), (("x",),))}, {"in": "a"}, ["x", "z", "w"])
        for outlet in ("z", "w"):
            self.assertEqual(shares(net, outlet), Shares({"a": (0, 1), "b": (0, 1)}))
            self.assertEqual([share_of(net, "in", outlet), gained(net, "in", outlet)], [(0, 1), (0, 2)])

    def test_more_than_one_comes_out(self):
        net = Net({"a": ((), (("x", "x", "x"), ("a", "x")))}, {"in": "a"}, ["x"])
        self.assertEqual([share_of(net, "in", "x"), gained(net, "in", "x")], [(4, 1), (4, 1)])

    def test_twelve_knots(self):
        self.assertEqual(share_of(samples.walk(), "in", "left"), (7, 13))
        self.assertEqual(gained(samples.walk(), "a", "right"), (1, 13))


class Showing(unittest.TestCase):
    """[8] What Shares shows, and what it does not."""

    def shows(self, outlet="x", **worths):
        return Shares({"a": (2, 3), "b": (1, 3), **worths}).shows(samples.told(), outlet)

    def test_any_fractions_of_that_size(self):
        self.assertIs(self.shows(), True)
        self.assertIs(self.shows(a=(4, 6), b=(100, 300)), True)
        self.assertIs(Shares({"a": (0, 7)}).shows(Net({"a": ((), ((),))}, {"in": "a"}, ["x"]), "x"), True)

    def test_one_thing_changed(self):
        self.assertIs(self.shows(outlet="y"), False)
        for wrong in ((1, 3), (3, 3), (2, 4), (-2, -3), (2, 0), (0, 0), (-2, 3), (0, 1), (2 * 10 ** 30 + 1, 3 * 10 ** 30)):
            self.assertIs(self.shows(a=wrong), False)
        for wrong in ((2, 3), (-1, 3), (1, 0), (-1, -3), [1, 3], (1, 3, 1)):
            self.assertIs(self.shows(b=wrong), False)
        self.assertIs(self.shows(q=(0, 1)), False)
        self.assertIs(Shares({"a": (2, 3)}).shows(samples.told(), "x"), False)
        self.assertIs(Shares({"a": (2, 3), "x": (1, 3)}).shows(samples.told(), "x"), False)
        self.assertIs(Shares({}).shows(samples.told(), "x"), False)

    def test_copies_and_equality(self):
        worths = {"a": (2, 3), "b": (1, 3)}
        found = Shares(worths)
        worths["a"] = (1, 1)
        self.assertEqual(found.worths, {"a": (2, 3), "b": (1, 3)})
        self.assertEqual(found, shares(samples.told(), "x"))
        for other in (Shares({"a": (4, 6), "b": (1, 3)}), Shares({}), None, {"a": (2, 3), "b": (1, 3)}):
            self.assertNotEqual(found, other)
        shares(samples.told(), "x").worths.clear()
        self.assertEqual(shares(samples.told(), "x"), found)


class Wrong(unittest.TestCase):
    """[1], [8] Errors, those documented first ahead."""

    def test_no_nets_and_nets_that_do_not_end(self):
        samples.refuse_nets(self, ((shares, ("q",)), (share_of, ("q", "q")), (gained, ("q", "q")),
                                   (Shares({}).shows, ("q",))))

    def test_no_parts(self):
        net = samples.told()
        for wrong in ("q", "", None, 3, ["x"], ("x",)):
            for call in (shares, Shares({}).shows):
                with self.assertRaises(NoPart) as caught:
                    call(net, wrong)
                self.assertEqual(caught.exception.name, wrong)
            for call in (share_of, gained):
                with self.assertRaises(NoPart) as caught:
                    call(net, "in", wrong)
                self.assertEqual(caught.exception.name, wrong)
                with self.assertRaises(NoPart) as caught:
                    call(net, wrong, "p")
                self.assertEqual(caught.exception.name, wrong)
        for call in (share_of, gained):
            for name, outlet, first in (("x", "x", "x"), ("a", "a", "a"), ("in", "in", "in")):
                with self.assertRaises(NoPart) as caught:
                    call(net, name, outlet)
                self.assertEqual(caught.exception.name, first)
