"""Nets from nets ([13])."""

import unittest
from random import Random

from ballchutes.alikes import judge_alike
from ballchutes.errors import BadNet, BadStanding, NoPart
from ballchutes.joining import begun_at, joined, renamed, straight
from ballchutes.nets import Net
from ballchutes.settling import settle
from tests import plain, samples

ROWS = ((), (("x",),))


def one_net():
    return Net({"a": ((), (("b",), ("x",))), "b": ((), (("y",),))}, {"in": "a"}, ["x", "y"])


def other_net():
    return Net({"c": ((), (("y",), ("z",))), "d": ((), (("c",),))}, {"on": "c", "up": "d"}, ["y", "z"])


def is_idle(net, knot):
    """Whether a knot lets each ball fall to one same target alone, and should not stay."""
    drops = set(net.knots[knot][0] + net.knots[knot][1])
    if len(drops) != 1 or len(min(drops)) != 1 or min(drops) == (knot,):
        return False
    return min(drops)[0] in net.knots or knot not in net.inlets.values()


class Begun(unittest.TestCase):
    """[13] Nets that begin elsewhere."""

    def test_within_a_front_at_its_end_and_within_the_turn(self):
        front, turn = (("x",), ("y",)), (("x",), ("x",), ("y",))
        net = Net({"a": (front, turn)}, {"in": "a"}, ["x", "y"])
        for place, rows in ((0, (front, turn)), (1, (front[1:], turn)), (2, ((), turn)),
                            (3, ((), (("x",), ("y",), ("x",)))), (4, ((), (("y",), ("x",), ("x",))))):
            self.assertEqual(begun_at(net, {"a": place}), Net({"a": ((rows[0]), rows[1])}, {"in": "a"}, ["x", "y"]))

    def test_each_knot_by_itself(self):
        net = samples.fronted()
        found = begun_at(net, {"b": 3, "a": 1})
        self.assertEqual(found.knots, {"a": ((("b",),), (("b", "b"), ("x",), ())),
                                       "b": ((), (("a", "y", "y", "y"), ("y",), ()))})
        self.assertEqual((found.inlets, found.outlets), (net.inlets, net.outlets))

    def test_what_comes_out_is_what_came_from_there(self):
        for seed in range(60):
            net, dice = samples.made(seed), Random(seed)
            standing = samples.made_standing(net, dice)
            balls = {name: dice.randint(0, 12) for name in [*net.inlets, *net.knots]}
            self.assertEqual(settle(begun_at(net, standing), balls).out, settle(net, balls, standing).out)
            self.assertEqual(begun_at(net, standing), samples.begun(net, standing))

    def test_at_the_start_and_nets_that_do_not_end(self):
        for net in [samples.told(), samples.fronted(), samples.twelve(), *samples.endless().values()]:
            self.assertEqual(begun_at(net, net.start()), net)
        net = samples.endless()["itself twice"]
        self.assertEqual(begun_at(net, {"a": 1}).knots, {"a": ((), ((), ("a", "a")))})

    def test_nothing_is_changed(self):
        net, standing = samples.fronted(), {"b": 1, "a": 3}
        begun_at(net, standing).knots.clear()
        self.assertEqual((net, list(standing.items())), (samples.fronted(), [("b", 1), ("a", 3)]))

    def test_errors(self):
        for net in samples.NO_NETS:
            with self.assertRaises(BadNet) as caught:
                begun_at(net, 5)
            self.assertIsNone(caught.exception.name)
        for standing in samples.wrong_standings(samples.told()) + [None]:
            with self.assertRaises(BadStanding):
                begun_at(samples.told(), standing)


class Renamed(unittest.TestCase):
    """[13] Nets with other names."""

    def test_inlets_outlets_and_knots_at_once(self):
        found = renamed(one_net(), {"a": "k.1", "in": "i", "x": "out", "b": "b2"})
        self.assertEqual(found, Net({"k.1": ((), (("b2",), ("out",))), "b2": ((), (("y",),))}, {"i": "k.1"}, ["out", "y"]))
        self.assertEqual((list(found.knots), found.outlets), (["b2", "k.1"], ("out", "y")))

    def test_names_that_change_places(self):
        found = renamed(one_net(), {"a": "b", "b": "a", "x": "y", "y": "x"})
        self.assertEqual(found, Net({"b": ((), (("a",), ("y",))), "a": ((), (("x",),))}, {"in": "b"}, ["x", "y"]))
        found = renamed(one_net(), {"a": "x", "x": "in", "in": "a"})
        self.assertEqual(found, Net({"x": ((), (("b",), ("in",))), "b": ((), (("y",),))}, {"a": "x"}, ["in", "y"]))
        two = Net({"a": ROWS, "b": ROWS}, {"i": "a", "j": "b"}, ["x"])
        self.assertEqual(renamed(two, {"i": "j", "j": "i"}), Net({"a": ROWS, "b": ROWS}, {"i": "b", "j": "a"}, ["x"]))

    def test_fronts_and_several_targets(self):
        found = renamed(samples.fronted(), {"b": "d", "x": "v"})
        self.assertEqual(found.knots, {"a": ((("v", "z"), ("d",)), (("d", "d"), ("v",), ())),
                                       "d": ((("a",),), (("y",), (), ("a", "y", "y", "y")))})
        self.assertEqual((found.inlets, found.outlets), ({"in": "a", "left": "d"}, ("v", "y", "z")))

    def test_no_names_the_same_names_and_back_again(self):
        for net in [samples.fronted(), samples.twelve(), *samples.endless().values()]:
            self.assertEqual(renamed(net, {}), net)
            names = [*net.knots, *net.inlets, *net.outlets]
            self.assertEqual(renamed(net, {name: name for name in names}), net)
            new = {name: f"n{at}" for at, name in enumerate(names)}
            self.assertEqual(renamed(renamed(net, new), {other: name for name, other in new.items()}), net)

    def refused(self, error, names, name, net=None):
        net = net or Net({"a": ((), (("b",), ("c",))), "b": ROWS, "c": ROWS}, {"i": "a", "j": "b", "k": "c"}, ["x", "y"])
        given = repr(names)
        with self.assertRaises(error) as caught:
            renamed(net, names)
        self.assertEqual((caught.exception.name, repr(names)), (name, given))

    def test_names_that_the_net_has_not(self):
        for name in ("q", "", "A", 5, None, ("a",)):
            self.refused(NoPart, {"a": "d", name: "e", "r": "f"}, name)
        self.refused(NoPart, {"a": "b", "q": "a"}, "q")
        self.refused(NoPart, {"q": "e", "a": "d"}, "q")

    def test_two_that_come_to_have_one(self):
        self.refused(BadNet, {"a": "b"}, "b")
        self.refused(BadNet, {"c": "n", "a": "n"}, "n")
        self.refused(BadNet, {"i": "j"}, "j")
        self.refused(BadNet, {"j": "n", "k": "n"}, "n")
        self.refused(BadNet, {"i": "j", "a": "c"}, "c")
        self.refused(BadNet, {"x": "Y!", "a": "c"}, "c")
        self.refused(BadNet, {"x": "Y!", "i": "k"}, "k")

    def test_as_for_a_net(self):
        self.refused(BadNet, {"x": "y"}, "y")
        self.refused(BadNet, {"a": "x"}, "x")
        self.refused(BadNet, {"i": "b"}, "b")
        self.refused(BadNet, {"i": "y"}, "y")
        for name in ("", "A", "1a", ".a", "a_b", "a" * 17, "a b"):
            for part in ("a", "x", "i"):
                self.refused(BadNet, {part: name}, name)
        for name in (None, 5, ["d"], True):
            for part in ("a", "x", "i"):
                self.refused(BadNet, {part: name}, None)
        self.refused(BadNet, {"a": "Q", "x": "R", "i": "S"}, "Q")
        self.refused(BadNet, {"x": "R", "i": "S"}, "R")
        self.refused(BadNet, {"a": "Q", "b": None, "c": None}, "Q")
        self.refused(BadNet, {"b": None, "c": "Q", "a": "d"}, None)

    def test_no_nets_and_nothing_changed(self):
        for net in samples.NO_NETS:
            with self.assertRaises(BadNet) as caught:
                renamed(net, {"q": "a"})
            self.assertIsNone(caught.exception.name)
        net, names = one_net(), {"a": "c"}
        renamed(net, names).inlets.clear()
        self.assertEqual((net, names), (one_net(), {"a": "c"}))


class Joined(unittest.TestCase):
    """[13] Nets of two."""

    def test_some_links(self):
        found = joined(one_net(), other_net(), {"x": "on"})
        self.assertEqual(found, Net({"a": ((), (("b",), ("c",))), "b": ((), (("y",),)), "c": ((), (("y",), ("z",))),
                                     "d": ((), (("c",),))}, {"in": "a", "up": "d"}, ["y", "z"]))

    def test_all_outlets(self):
        found = joined(one_net(), other_net(), {"y": "up", "x": "on"})
        self.assertEqual(found, Net({"a": ((), (("b",), ("c",))), "b": ((), (("d",),)), "c": ((), (("y",), ("z",))),
                                     "d": ((), (("c",),))}, {"in": "a"}, ["y", "z"]))

    def test_two_outlets_to_one_inlet(self):
        found = joined(one_net(), other_net(), {"y": "up", "x": "up"})
        self.assertEqual((found.knots["a"], found.knots["b"], found.inlets), (((), (("b",), ("d",))), ((), (("d",),)),
                                                                             {"in": "a", "on": "c"}))

    def test_no_links(self):
        found = joined(one_net(), other_net(), {})
        self.assertEqual(found, Net({**one_net().knots, **other_net().knots}, {"in": "a", "on": "c", "up": "d"},
                                    ["x", "y", "z"]))

    def test_an_outlet_of_both_that_is_gone_in_the_first_one_stays_in_the_second_one(self):
        one = Net({"a": ((("x", "y"),), (("x", "x", "y"), ()))}, {"in": "a"}, ["x", "y"])
        other = Net({"b": ((("y",),), (("x",),))}, {"on": "b"}, ["x", "y"])
        found = joined(one, other, {"x": "on"})
        self.assertEqual(found, Net({"a": ((("b", "y"),), (("b", "b", "y"), ())), "b": ((("y",),), (("x",),))},
                                    {"in": "a"}, ["x", "y"]))

    def test_a_name_that_is_gone_may_stand_elsewhere(self):
        one = Net({"a": ROWS}, {"in": "a"}, ["x"])
        other = Net({"x": ((), (("z",),))}, {"on": "x"}, ["z"])
        self.assertEqual(joined(one, other, {"x": "on"}),
                         Net({"a": ((), (("x",),)), "x": ((), (("z",),))}, {"in": "a"}, ["z"]))
        other = Net({"b": ((), (("z",),))}, {"in": "b"}, ["z"])
        self.assertEqual(joined(one, other, {"x": "in"}),
                         Net({"a": ((), (("b",),)), "b": ((), (("z",),))}, {"in": "a"}, ["z"]))

    def test_what_comes_out_goes_on(self):
        for seed in range(40):
            one, dice = samples.made(4 * seed + 1), Random(seed)
            other = samples.made(4 * seed + 2)
            other = renamed(other, {**{knot: f"k{knot}" for knot in other.knots}, **{inlet: f"l{inlet}" for inlet in
                                                                                    other.inlets}})
            links = {outlet: dice.choice(list(other.inlets)) for outlet in one.outlets if dice.random() < 0.7}
            first, second = ({name: dice.randint(0, 6) for name in net.inlets} for net in (one, other))
            try:
                found = joined(one, other, links)
            except BadNet:
                continue
            stay = {inlet: many for inlet, many in second.items() if inlet in found.inlets}
            out = settle(one, first).out
            later = dict(stay)
            for outlet, inlet in links.items():
                later[inlet] = later.get(inlet, 0) + out[outlet]
            more = settle(other, later).out
            self.assertEqual(settle(found, {**first, **stay}).out,
                             {outlet: (0 if outlet in links else out.get(outlet, 0)) + more.get(outlet, 0)
                              for outlet in found.outlets})
            self.assertEqual(set(found.outlets), set(one.outlets) - set(links) | set(other.outlets))

    def refused(self, error, one, other, links, name):
        given = repr(links)
        with self.assertRaises(error) as caught:
            joined(one, other, links)
        self.assertEqual((caught.exception.name, repr(links)), (name, given))

    def test_wrong_links(self):
        one, other = one_net(), other_net()
        for name in ("q", "a", "in", "z", "", None, 5):
            self.refused(NoPart, one, other, {"x": "on", name: "on"}, name)
            self.refused(NoPart, one, other, {name: "q", "x": "r"}, name)
        for name in ("q", "c", "in", "z", "", None, 5, ["on"], True):
            self.refused(NoPart, one, other, {"x": "on", "y": name}, name)
            self.refused(NoPart, one, other, {"x": name, "r": "on"}, name)

    def test_names_of_both(self):
        two = Net({"c": ((), (("b",),)), "b": ((), (("a",),)), "a": ((), (("y",),))}, {"in": "c", "on": "b"}, ["y"])
        self.refused(BadNet, one_net(), two, {}, "a")
        self.refused(NoPart, one_net(), two, {"q": "in"}, "q")
        three = Net({"c": ROWS, "d": ROWS}, {"in": "c", "up": "d"}, ["x"])
        self.refused(BadNet, one_net(), three, {"x": "up"}, "in")
        self.refused(BadNet, one_net(), one_net(), {"x": "in"}, "a")
        self.assertEqual(joined(one_net(), three, {"x": "in"}).inlets, {"in": "a", "up": "d"})

    def test_as_for_a_net(self):
        one = one_net()
        self.refused(BadNet, one, Net({"x": ((), (("z",),))}, {"on": "x"}, ["z"]), {}, "x")
        self.refused(BadNet, one, Net({"c": ((), (("a",),))}, {"on": "c"}, ["a"]), {}, "a")
        self.refused(BadNet, one, Net({"c": ((), (("z",),))}, {"a": "c"}, ["z"]), {}, "a")
        self.refused(BadNet, one, Net({"c": ((), (("z",),))}, {"y": "c"}, ["z"]), {}, "y")
        never = Net({"a": ((("x",),), ((),))}, {"in": "a"}, ["x"])
        self.refused(BadNet, never, Net({"c": ((), (("z",),))}, {"on": "c"}, ["z"]), {"x": "on"}, "c")
        many = Net({f"k{at}": ROWS for at in range(11)}, {f"i{at}": f"k{at}" for at in range(11)}, ["x"])
        self.refused(BadNet, one, many, {}, None)

    def test_no_nets_and_nothing_changed(self):
        for net in samples.NO_NETS:
            for pair in ((net, other_net()), (one_net(), net)):
                with self.assertRaises(BadNet) as caught:
                    joined(*pair, {"q": "r"})
                self.assertIsNone(caught.exception.name)
        one, other, links = one_net(), other_net(), {"x": "on"}
        joined(one, other, links).knots.clear()
        self.assertEqual((one, other, links), (one_net(), other_net(), {"x": "on"}))

    def test_nets_that_do_not_end(self):
        found = joined(samples.endless()["one more out"], Net({"c": ROWS}, {"on": "c"}, ["x"]), {"x": "on"})
        self.assertEqual(found.knots["b"], ((), (("a", "c"),)))


class Straight(unittest.TestCase):
    """[13] Nets without knots that let each ball fall to one same target alone."""

    def test_a_chain(self):
        net = Net({"a": ((), (("b",), ("y",))), "b": ((), (("c",),) * 3), "c": ((("d",),), (("d",),)),
                   "d": ((), (("x",),))}, {"in": "a"}, ["x", "y"])
        self.assertEqual(straight(net), Net({"a": ((), (("x",), ("y",)))}, {"in": "a"}, ["x", "y"]))

    def test_one_that_becomes_such_a_knot(self):
        net = Net({"a": ((), (("b",), ("c",), ("a",))), "b": ((), (("d",), ("c",))), "c": ((), (("d",),)),
                   "d": ((), (("x",), ("y",)))}, {"in": "a"}, ["x", "y"])
        self.assertEqual(straight(net), Net({"a": ((), (("d",), ("d",), ("a",))), "d": ((), (("x",), ("y",)))},
                                            {"in": "a"}, ["x", "y"]))

    def test_its_own_target_stays(self):
        net = samples.endless()["itself"]
        self.assertEqual(straight(net), net)
        net = Net({"a": ((), (("b",), ("x",))), "b": ((("b",),), (("b",), ("b",)))}, {"in": "a"}, ["x"])
        self.assertEqual(straight(net), net)
        ring = Net({"a": ((), (("b",),)), "b": ((), (("c",),)), "c": ((), (("a",),))}, {"in": "b"}, [])
        found = straight(ring)
        self.assertEqual([rows for _, rows in found.knots.items()], [((), ((knot,),)) for knot in found.knots])
        self.assertEqual((len(found), list(found.inlets)), (1, ["in"]))

    def test_an_inlet_and_an_outlet(self):
        net = samples.single()
        self.assertEqual(straight(net), net)
        chain = Net({"a": ((), (("b",),)), "b": ((("x",),), (("x",), ("x",)))}, {"in": "a"}, ["x"])
        found = straight(chain)
        self.assertEqual(len(found), 1)
        self.assertIs(bool(judge_alike(chain, found)), True)
        two = Net({"a": ((), (("x",),)), "b": ((), (("a",), ("c",))), "c": ((), (("x",),))}, {"in": "a", "on": "b"}, ["x"])
        found = straight(two)
        self.assertEqual((sorted(found.knots), found.inlets), (["a", "b"], {"in": "a", "on": "b"}))

    def test_an_inlet_and_a_knot(self):
        net = Net({"a": ((), (("b",),)), "b": ((), (("x",), ("y",)))}, {"in": "a", "on": "b", "up": "a"}, ["x", "y"])
        self.assertEqual(straight(net), Net({"b": ((), (("x",), ("y",)))}, {"in": "b", "on": "b", "up": "b"}, ["x", "y"]))

    def test_fronts_and_drops_that_differ(self):
        for rows in (((("y",),), (("x",),)), ((("x",), ()), (("x",),)), ((), (("x", "x"),)), ((), ((),)),
                     ((), (("x",), ("y",))), ((), (("x",), ())), ((("x",), ("x", "x")), (("x",),))):
            net = Net({"a": ((), (("b",), ("b", "b"))), "b": rows}, {"in": "a"}, ["x", "y"])
            self.assertEqual(straight(net), net)
        net = Net({"a": ((), (("b",), ("b", "b"))), "b": ((("x",),) * 2, (("x",),) * 3)}, {"in": "a"}, ["x", "y"])
        self.assertEqual(straight(net), Net({"a": ((), (("x",), ("x", "x")))}, {"in": "a"}, ["x", "y"]))

    def test_one_by_one(self):
        fewer = 0
        for seed in range(400):
            net, dice = samples.made(seed), Random(seed)
            # Knots that let all fall to one target are rare by chance.
            idle = {knot: ((), ((dice.choice([*net.knots, *net.outlets]),),)) for knot in net.knots
                    if dice.random() < 0.4}
            try:
                net = Net({**net.knots, **idle}, net.inlets, net.outlets)
            except BadNet:
                continue
            found = straight(net)
            self.assertFalse([knot for knot in found.knots if is_idle(found, knot)])
            self.assertEqual((list(found.inlets), found.outlets), (list(net.inlets), net.outlets))
            fewer += len(found) < len(net)
            if plain.ends(net):
                self.assertIs(bool(judge_alike(net, found)), True)
        self.assertGreater(fewer, 30)

    def test_no_nets_and_nothing_changed(self):
        for net in samples.NO_NETS:
            with self.assertRaises(BadNet) as caught:
                straight(net)
            self.assertIsNone(caught.exception.name)
        net = samples.gates()
        straight(net).knots.clear()
        straight(samples.twelve())
        self.assertEqual(net, samples.gates())
