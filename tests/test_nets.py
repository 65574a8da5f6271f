"""Nets ([2]), and what a knot lets fall ([3])."""

import unittest

from ballchutes.errors import BadNet
from ballchutes.nets import Net
from tests import plain, samples

ROWS = ((), (("x",),))


class Nets(unittest.TestCase):
    """[2] What a net is."""

    def test_the_example(self):
        net = samples.told()
        self.assertEqual([net.outlets, net.start(), net.dropped("a", 1, 4), net.place_behind("a", 1, 4)],
                         [("x", "y"), {"a": 0, "b": 0}, {"x": 2, "b": 2}, 1])

    def test_attributes_are_ascending(self):
        net = Net({"b": ROWS, "a.1": ((), (("b",), ())), "a": ROWS}, {"z": "a", "y": "a.1"}, ["x", "w", "w.9"])
        self.assertEqual(list(net.knots), ["a", "a.1", "b"])
        self.assertEqual(list(net.inlets.items()), [("y", "a.1"), ("z", "a")])
        self.assertEqual(net.outlets, ("w", "w.9", "x"))
        self.assertEqual(net.knots["a.1"], ((), (("b",), ())))
        self.assertEqual(list(net.start().items()), [("a", 0), ("a.1", 0), ("b", 0)])
        self.assertIsInstance(net.outlets, tuple)

    def test_outlets_may_be_a_tuple_or_none(self):
        self.assertEqual(Net({"a": ROWS}, {"in": "a"}, ("x",)).outlets, ("x",))
        self.assertEqual(Net({"a": ((), ((),))}, {"in": "a"}, []).outlets, ())

    def test_length_and_members(self):
        net = samples.told()
        self.assertEqual([len(net), len(samples.single()), len(samples.twelve())], [2, 1, 12])
        self.assertEqual([name in net for name in ("a", "b", "x", "y", "in", "q", "")],
                         [True, True, True, True, False, False, False])

    def test_equality(self):
        self.assertEqual(samples.told(), samples.told())
        self.assertEqual(Net({"a": ((), (("b",),)), "b": ROWS}, {"i": "a", "j": "b"}, ["x", "y"]),
                         Net({"b": ROWS, "a": ((), (("b",),))}, {"j": "b", "i": "a"}, ("y", "x")))
        one = Net({"a": ROWS}, {"in": "a"}, ["x"])
        for other in (Net({"a": ((), (("x",), ("x",)))}, {"in": "a"}, ["x"]), Net({"a": ROWS}, {"on": "a"}, ["x"]),
                      Net({"a": ROWS}, {"in": "a"}, ["x", "y"]), Net({"b": ROWS}, {"in": "b"}, ["x"]),
                      Net({"a": ((("x",),), (("x",),))}, {"in": "a"}, ["x"]), None, "a", {"a": ROWS}):
            self.assertNotEqual(one, other)
        two = {"a": ((), (("b",),)), "b": ROWS}
        self.assertNotEqual(Net(two, {"i": "a", "j": "b"}, ["x"]), Net(two, {"i": "a", "j": "a"}, ["x"]))

    def test_what_is_given_is_copied_and_not_changed(self):
        knots, inlets, outlets = {"b": ROWS, "a": ((), (("b",),))}, {"j": "b", "i": "a"}, ["y", "x"]
        net = Net(knots, inlets, outlets)
        self.assertEqual((list(knots), list(inlets), outlets), (["b", "a"], ["j", "i"], ["y", "x"]))
        del knots["a"]
        inlets.clear()
        outlets.append("z")
        self.assertEqual((list(net.knots), net.inlets, net.outlets), (["a", "b"], {"i": "a", "j": "b"}, ("x", "y")))

    def test_start_is_new(self):
        net = samples.told()
        net.start()["a"] = 1
        self.assertEqual(net.start(), {"a": 0, "b": 0})

    def test_the_greatest_and_the_least(self):
        net = samples.twelve()
        self.assertEqual(len(net.knots["a0123456789.abcd"][0]), 12)
        self.assertEqual(len(Net({"a": (((),) * 12, ((),) * 12)}, {"i": "a"}, [])), 1)
        self.assertEqual(len(Net({"a": ((), (("a",) * 4,))}, {"i": "a"}, [])), 1)
        many = [f"x{number}" for number in range(40)]
        self.assertEqual(len(Net({"a": ((), ((),))}, {f"i{name}": "a" for name in many}, many).outlets), 40)

    def test_a_knot_may_be_met_behind_others_or_by_a_second_inlet(self):
        row = ((), (("b",),))
        self.assertEqual(len(Net({"a": row, "b": ((), (("c",),)), "c": ((), ((), ("x", "a")))}, {"i": "a"}, ["x"])), 3)
        self.assertEqual(len(Net({"a": ROWS, "b": ROWS}, {"i": "a", "j": "b"}, ["x"])), 2)
        self.assertEqual(len(Net({"c": ((), (("b",),)), "b": ((), (("a",),)), "a": ROWS}, {"i": "c"}, ["x"])), 3)


class BadNets(unittest.TestCase):
    """[2] What is no net."""

    def bad(self, name, knots, inlets=None, outlets=("x",)):
        if inlets is None:
            inlets = {"in": "a"}
        given = repr((knots, inlets, outlets))
        with self.assertRaises(BadNet) as caught:
            Net(knots, inlets, outlets)
        self.assertEqual((caught.exception.name, repr((knots, inlets, outlets))), (name, given))

    def test_wrong_kinds(self):
        for knots in (None, [], [("a", ROWS)], (), "a", 1, {}):
            self.bad(None, knots)
        for inlets in ([], [("in", "a")], ("in", "a"), "a", 1, {}):
            self.bad(None, {"a": ROWS}, inlets)
        for outlets in (None, {"x": 1}, "x", 1, {"x"}):
            self.bad(None, {"a": ROWS}, None, outlets)
        self.bad(None, {f"a{number}": ROWS for number in range(13)}, {"in": "a0"})

    def test_wrong_kinds_come_first(self):
        self.bad(None, {"A": ROWS}, {}, ["x"])
        self.bad(None, {"A": ROWS}, {"in": "A"}, None)
        self.bad(None, {"A": 1}, None, "xy")

    def test_names_that_are_none(self):
        for name in ("", "A", "aB", "1a", ".a", "a b", "a-b", "a_b", "a" * 17, "\u00e9", "a\u00e9", "a\u00b2", "a\n",
                     "\u0430", "a/", "a:"):
            self.bad(name, {name: ROWS}, {"in": name})
            self.bad(name, {"a": ROWS}, {name: "a"})
            self.bad(name, {"a": ROWS}, {"in": "a"}, ["x", name])

    def test_names_of_one_and_sixteen_signs(self):
        for name in ("a", "z", "a" * 16, "a..", "z0.9", "q123456789012345"):
            net = Net({name: ((), ((name, "x"),))}, {"in": name}, ["x"])
            self.assertEqual(list(net.knots), [name])
            self.assertEqual(Net({"k": ((), ((name,),))}, {"in": "k"}, [name]).outlets, (name,))

    def test_no_text(self):
        for name in (1, None, ("a",), True, b"a"):
            self.bad(None, {name: ROWS})
            self.bad(None, {"a": ROWS}, {name: "a"})
            self.bad(None, {"a": ROWS}, None, ["x", name])
        self.bad(None, {"a": ROWS}, None, ["x", ["y"]])
        self.bad(None, {"a": ROWS}, None, ["x", {}])

    def test_names_that_stand_twice(self):
        self.bad("a", {"a": ROWS}, None, ["x", "a"])
        self.bad("x", {"a": ROWS}, None, ["x", "y", "x"])
        self.bad("a", {"a": ROWS}, {"a": "a"})
        self.bad("x", {"a": ROWS}, {"in": "a", "x": "a"})

    def test_the_first_wrong_name_in_the_order_that_is_given(self):
        self.bad("B", {"a": ROWS, "B": ROWS, "A": ROWS}, {"In": "a"}, ["X"])
        self.bad("Y", {"a": ROWS}, {"In": "a"}, ["x", "Y", "X"])
        self.bad("On", {"a": ROWS}, {"in": "a", "On": "a", "In": "a"}, ["x"])
        self.bad("a", {"a": ROWS}, {"in": "a", "On": "a"}, ["a", "X"])
        self.bad(None, {"a": ROWS, 3: ROWS, "A": ROWS})
        self.bad("x", {"a": ROWS}, {"X": "a"}, ["x", "x", "X"])

    def test_rows_that_are_wrong(self):
        for rows in (None, [], (), ((),), ((), ()), [(), (("x",),)], ((), (("x",),), ()), ((), [("x",)]),
                     ([], (("x",),)), ((), (["x"],)), ((), ("x",)), ((), (("q",),)), ((), (("in",),)), ((), ((1,),)),
                     ((), ((None,),)), ((), ((["x"],),)), ((), (("x",) * 5,)), ((("x",) * 5,), (("x",),)),
                     ((), (("x",),) * 13), ((("x",),) * 13, (("x",),)), "ab", ((("q",),), (("x",),)), (None, (("x",),)),
                     ((), None), {}, 5, ((("x",),), ())):
            self.bad("a", {"a": rows})

    def test_the_first_ascending_knot_with_wrong_rows(self):
        self.bad("b", {"c": 1, "b": 1, "a": ROWS}, {"in": "q"})
        self.bad("a", {"b": 1, "a": ((), ())})

    def test_wrong_names_come_ahead_of_wrong_rows(self):
        self.bad("X", {"a": 1}, None, ["X"])
        self.bad("In", {"a": 1}, {"In": "a"})

    def test_inlets_that_lead_to_no_knot(self):
        for knot in ("q", "x", "in", None, 1, ["a"], ("a",), ""):
            self.bad("in", {"a": ROWS}, {"in": knot})
        self.bad("on", {"a": ROWS, "b": ROWS}, {"in": "a", "on": "q", "an": "q"})
        self.bad("a", {"a": ((), ())}, {"in": "q"})

    def test_knots_that_are_not_met(self):
        self.bad("b", {"c": ROWS, "b": ROWS, "a": ROWS})
        self.bad("b", {"a": ((("b",),), (("x",),)), "b": ROWS})
        self.bad("b", {"a": ROWS, "b": ((), (("b", "a"),))})
        self.bad("b", {"a": ROWS, "b": ((), (("c",),)), "c": ((), (("b",),))})
        self.bad("c", {"a": ((), (("b",),)), "b": ((("c",),), (("x",),)), "c": ROWS})
        self.bad("on", {"a": ROWS, "b": ROWS}, {"in": "a", "on": "q"})


class Falling(unittest.TestCase):
    """[3] What a knot lets fall, and its place then."""

    def setUp(self):
        self.net = Net({"a": ((("x",), (), ("a", "x")), (("x", "y"), (), ("y", "y", "y", "a"), ("b",))),
                        "b": ((), (("x",),))}, {"in": "a"}, ["x", "y", "z"])

    def test_all_places_and_numbers_one_by_one(self):
        for net in (self.net, samples.fronted(), samples.gates(), samples.single()):
            for knot, (front, turn) in net.knots.items():
                for place in range(len(front) + len(turn)):
                    at, counts = place, {}
                    for many in range(20):
                        self.assertEqual(net.dropped(knot, place, many), counts)
                        self.assertEqual(net.place_behind(knot, place, many), at)
                        for target in plain.drop_at(net, knot, at):
                            counts[target] = counts.get(target, 0) + 1
                        at = plain.next_place(net, knot, at)

    def test_none_and_those_that_get_nothing(self):
        self.assertEqual(self.net.dropped("a", 2, 0), {})
        self.assertEqual(self.net.dropped("a", 1, 1), {})
        self.assertEqual(self.net.dropped("a", 3, 2), {"x": 1, "y": 1})
        self.assertEqual(self.net.place_behind("a", 2, 0), 2)
        self.assertEqual(self.net.place_behind("a", 6, 1), 3)

    def test_very_large_numbers(self):
        many = 4 * 10 ** 40
        self.assertEqual(self.net.dropped("a", 3, many), {"x": many // 4, "y": many, "a": many // 4, "b": many // 4})
        self.assertEqual(self.net.dropped("a", 0, many + 4),
                         {"x": many // 4 + 3, "y": many + 1, "a": many // 4 + 1, "b": many // 4})
        self.assertEqual(self.net.place_behind("a", 0, many + 4), 4)
        self.assertEqual(self.net.place_behind("a", 5, many + 3), 4)

    def test_what_is_returned_is_new(self):
        self.net.dropped("a", 3, 4)["x"] = 9
        self.assertEqual(self.net.dropped("a", 3, 4), {"x": 1, "y": 4, "a": 1, "b": 1})
