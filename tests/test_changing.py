"""Nets with one change, and standings from which they are like others ([22])."""

import unittest
from random import Random

from ballchutes.alikes import judge_alike
from ballchutes.changing import Mend, NoMend, begun_like, changed, judge_change
from ballchutes.ending import ends
from ballchutes.errors import BadChange, BadNet
from ballchutes.joining import begun_at
from ballchutes.nets import Net
from tests import plain, samples


def halves():
    """The net of the document's example."""
    return Net({"k": ((), (("a",), ("b",)))}, {"in": "k"}, ["a", "b"])


def fronted():
    """A net with a front, a drop with one target twice, an empty drop, and a knot that one drop alone leads to."""
    return Net({"k": ((("x", "x"), ()), (("m",), ("x",), ())), "m": ((), (("y",), ("x",)))}, {"in": "k"}, ["x", "y"])


def all_changes(net):
    """All changes of a net, by trying what might be one."""
    names = sorted([*net.knots, *net.outlets])
    return sorted((knot, number, at, name) for knot, (front, turn) in net.knots.items()
                  for number, drop in enumerate(list(front) + list(turn)) for at in range(len(drop))
                  for name in names if name != drop[at])


def by_hand(net, change):
    """The rows of a net with a change, as lists; None for what is no net or does not end."""
    knot, number, at, name = change
    rows = {other: ([list(drop) for drop in front], [list(drop) for drop in turn])
            for other, (front, turn) in net.knots.items()}
    front, turn = rows[knot]
    (front + turn)[number][at] = name
    knots = {other: (tuple(map(tuple, front)), tuple(map(tuple, turn))) for other, (front, turn) in rows.items()}
    try:
        return Net(knots, net.inlets, net.outlets)
    except BadNet:
        return None


def goal_for(net, dice):
    """A net with the same inlets and outlets: one with a change or two, or begun elsewhere, or another one."""
    kind = dice.randint(0, 3)
    if kind == 0:
        return samples.begun(net, samples.made_standing(net, dice))
    other = net
    for _ in range(kind):
        options = [more for more in (by_hand(other, change) for change in all_changes(other))
                   if more is not None and plain.ends(more)]
        other = dice.choice(options) if options else other
    return other


class Changing(unittest.TestCase):
    """[22] The net with a change."""

    def test_the_example(self):
        net = halves()
        self.assertEqual([judge_change(net, changed(net, ("k", 0, 0, "b"))).change,
                          begun_like(net, Net({"k": ((), (("b",), ("a",)))}, {"in": "k"}, ["a", "b"]))],
                         [("k", 0, 0, "b"), {"k": 1}])

    def test_places_in_front_and_turn(self):
        net = fronted()
        for change, rows in ((("k", 0, 0, "m"), ((("m", "x"), ()), (("m",), ("x",), ()))),
                             (("k", 0, 1, "y"), ((("x", "y"), ()), (("m",), ("x",), ()))),
                             (("k", 3, 0, "k"), ((("x", "x"), ()), (("m",), ("k",), ())))):
            found = changed(net, change)
            self.assertEqual(found, Net({**net.knots, "k": rows}, {"in": "k"}, ["y", "x"]))
        self.assertEqual(changed(net, ("m", 1, 0, "m")).knots["m"], ((), (("y",), ("m",))))

    def test_all_changes_one_by_one(self):
        for seed in range(0, 60, 3):
            for ending in (True, False):
                net = samples.made(seed, ending)
                for change in all_changes(net):
                    expected = by_hand(net, change)
                    if expected is None:
                        with self.assertRaises(BadNet) as caught:
                            changed(net, change)
                        self.assertIn(caught.exception.name, net.knots)
                    else:
                        self.assertEqual(changed(net, change), expected)

    def test_nets_that_do_not_end(self):
        net = samples.endless()["one more out"]
        self.assertEqual(changed(net, ("b", 0, 0, "x")).knots["b"], ((), (("x", "x"),)))
        self.assertIs(ends(changed(halves(), ("k", 0, 0, "k"))), True)
        self.assertIs(ends(changed(changed(halves(), ("k", 0, 0, "k")), ("k", 1, 0, "k"))), False)

    def test_what_is_no_net_then(self):
        with self.assertRaises(BadNet) as caught:
            changed(fronted(), ("k", 2, 0, "x"))
        self.assertEqual(caught.exception.name, "m")

    def test_wrong_changes(self):
        net = fronted()
        wrong = [None, [], (), "kabc", ("k", 0, 0), ("k", 0, 0, "m", "m"), ["k", 0, 0, "m"], {"k": 0}, 7,
                 ("q", 0, 0, "m"), ("x", 0, 0, "m"), ("in", 0, 0, "m"), (None, 0, 0, "m"), (["k"], 0, 0, "m"), (0, 0, 0, "m"),
                 ("k", -1, 0, "m"), ("k", 5, 0, "m"), ("m", 2, 0, "m"), ("k", True, 0, "m"), ("k", False, 0, "m"),
                 ("k", "0", 0, "m"), ("k", None, 0, "m"), ("k", 10 ** 30, 0, "m"),
                 ("k", 0, -1, "m"), ("k", 0, 2, "m"), ("k", 1, 0, "m"), ("k", 4, 0, "m"), ("k", 0, True, "m"),
                 ("k", 0, "0", "m"), ("k", 0, None, "m"), ("k", 0, 10 ** 30, "m"), ("m", 0, False, "x"),
                 ("k", 0, 0, "x"), ("k", 2, 0, "m"), ("m", 0, 0, "y"),
                 ("k", 0, 0, "in"), ("k", 0, 0, "q"), ("k", 0, 0, ""), ("k", 0, 0, None), ("k", 0, 0, 5), ("k", 0, 0, ["m"]),
                 ("k", 0, 0, ("m",))]
        for change in wrong:
            with self.assertRaises(BadChange):
                changed(net, change)
            self.assertIs(Mend(change).shows(net, net), False)
        self.assertEqual(net, fronted())

    def test_nets_that_are_none_come_first(self):
        for net in samples.NO_NETS:
            for change in (("k", 0, 0, "b"), None):
                with self.assertRaises(BadNet) as caught:
                    changed(net, change)
                self.assertIsNone(caught.exception.name)
        with self.assertRaises(BadChange):
            changed(samples.endless()["itself"], ("a", 0, 0, "a"))


class Judging(unittest.TestCase):
    """[22] Whether one change mends a net."""

    def test_the_first_change(self):
        net = halves()
        self.assertEqual(judge_change(net, Net({"k": ((), (("b",),))}, {"in": "k"}, ["a", "b"])), Mend(("k", 0, 0, "b")))
        self.assertEqual(judge_change(net, Net({"k": ((), (("a",),))}, {"in": "k"}, ["b", "a"])), Mend(("k", 1, 0, "a")))
        twice = Net({"k": ((), (("a", "b"), ("b", "a")))}, {"in": "k"}, ["a", "b"])
        goal = Net({"k": ((), (("a", "a"), ("a", "b")))}, {"in": "k"}, ["a", "b"])
        found = judge_change(twice, goal)
        self.assertEqual((found, bool(found)), (Mend(("k", 0, 1, "a")), True))
        self.assertIs(found.shows(twice, goal), True)

    def test_a_knot_for_another_one(self):
        net = Net({"a": ((), (("b",), ("x",))), "b": ((), (("y",), ("z",))), "c": ((), (("z",), ("y",)))},
                  {"in": "a", "on": "c", "up": "b"}, ["x", "y", "z"])
        self.assertEqual(judge_change(net, changed(net, ("a", 0, 0, "c"))), Mend(("a", 0, 0, "c")))

    def test_no_change_mends(self):
        net = halves()
        goal = Net({"k": ((), (("b",), ("a",)))}, {"in": "k"}, ["a", "b"])
        found = judge_change(net, goal)
        self.assertEqual((bool(found), list(found.told)), (False, [("k", 0, 0, "b"), ("k", 0, 0, "k"), ("k", 1, 0, "a"),
                                                                   ("k", 1, 0, "k")]))
        self.assertIs(found.shows(net, goal), True)
        self.assertTrue(all(list(balls) == ["in"] for balls in found.told.values()))

    def test_no_change_gives_a_net_that_ends(self):
        net = Net({"k": ((), (("x",),))}, {"in": "k"}, ["x"])
        found = judge_change(net, net)
        self.assertEqual((found, bool(found), found.shows(net, net)), (NoMend({}), False, True))
        empty = Net({"k": ((), ((),))}, {"in": "k"}, ["x"])
        self.assertEqual((judge_change(empty, net), judge_change(empty, empty)), (NoMend({}), NoMend({})))

    def test_nets_that_are_alike_already(self):
        net = Net({"k": ((), (("a",), ("b",)))}, {"in": "k"}, ["a", "b"])
        self.assertIs(bool(judge_change(net, net)), False)
        # What the second inlet's knot does does not matter for the first one, and one drop is as good as another.
        net = Net({"k": ((), (("m",),)), "m": ((), (("x",),)), "n": ((), (("x",),))}, {"in": "k", "on": "n", "up": "m"}, ["x"])
        self.assertEqual(judge_change(net, net), Mend(("k", 0, 0, "n")))

    def test_a_change_after_which_a_knot_is_not_met(self):
        """The change that would do it leaves a knot that no ball meets: so there is none."""
        net = Net({"k": ((), (("m",), ("x",))), "m": ((), (("y",), ("y",)))}, {"in": "k"}, ["x", "y"])
        goal = Net({"k": ((), (("x",),))}, {"in": "k"}, ["x", "y"])
        found = judge_change(net, goal)
        self.assertIs(bool(found), False)
        self.assertNotIn(("k", 0, 0, "x"), found.told)
        self.assertIn(("k", 1, 0, "m"), found.told)
        self.assertIs(found.shows(net, goal), True)

    def test_a_change_after_which_it_does_not_end(self):
        found = judge_change(halves(), Net({"k": ((), ((),))}, {"in": "k"}, ["a", "b"]))
        self.assertIn(("k", 0, 0, "k"), found.told)
        once = Net({"k": ((), (("m",), ("m",))), "m": ((), (("x",),))}, {"in": "k"}, ["x"])
        found = judge_change(once, Net({"k": ((), ((),))}, {"in": "k"}, ["x"]))
        self.assertEqual(list(found.told), [("k", 0, 0, "k"), ("k", 0, 0, "x"), ("k", 1, 0, "k"), ("k", 1, 0, "x")])

    def test_one_by_one(self):
        kinds = {True: 0, False: 0}
        for seed in range(200):
            net, dice = samples.made(seed), Random(seed)
            changes = all_changes(net)
            if len(changes) > 80 or len(plain.all_standings(net)) > 60:
                continue
            goal = goal_for(net, dice)
            found = judge_change(net, goal)
            nets = {change: by_hand(net, change) for change in changes}
            nets = {change: other for change, other in nets.items() if other is not None and plain.ends(other)}
            mending = [change for change, other in nets.items()
                       if plain.same_for_ever(other, goal, plain.start(other), plain.start(goal))]
            self.assertEqual(found.change if found else None, mending[0] if mending else None)
            self.assertIs(found.shows(net, goal), True)
            kinds[bool(found)] += 1
            for change in changes:
                self.assertIs(Mend(change).shows(net, goal), change in mending)
            if not found:
                self.assertEqual((list(found.told), list(found.told)), (list(nets), sorted(nets)))
                for change, balls in found.told.items():
                    self.assertEqual(list(balls), sorted(net.inlets))
                    self.assertNotEqual(plain.rest(nets[change], balls, plain.start(nets[change]))[1],
                                        plain.rest(goal, balls, plain.start(goal))[1])
        self.assertTrue(min(kinds.values()) > 15, kinds)

    def test_eighty_changes_and_many_standings(self):
        ten = (("b",),) + ((),) * 9
        net = Net({"a": ((), ten), "b": ((), (("c",),) + ((),) * 9), "c": ((), (("x",), ("x",), ("y",), ("x",), ("y",)))},
                  {"in": "a", "on": "b"}, ["x", "y"])
        for change in (("c", 4, 0, "x"), ("c", 2, 0, "x")):
            goal = changed(net, change)
            self.assertEqual(judge_change(net, goal), Mend(change))
        goal = changed(goal, ("c", 4, 0, "x"))
        found = judge_change(net, goal)
        self.assertEqual((bool(found), found.shows(net, goal)), (False, True))


class ShowingMend(unittest.TestCase):
    """[22] What Mend shows, and what it does not."""

    def test_changes(self):
        net = Net({"k": ((), (("a", "b"), ("b", "a")))}, {"in": "k"}, ["a", "b"])
        goal = Net({"k": ((), (("a", "a"), ("a", "b")))}, {"in": "k"}, ["a", "b"])
        for change, expected in ((("k", 0, 1, "a"), True), (("k", 0, 0, "b"), False), (("k", 1, 0, "a"), False),
                                 (("k", 0, 1, "k"), False), (("k", 0, 2, "a"), False), (("k", 0, -1, "a"), False),
                                 (("k", -2, 1, "a"), False), (("k", 0, 1, "b"), False), (("q", 0, 1, "a"), False)):
            self.assertIs(Mend(change).shows(net, goal), expected)
        self.assertIs(Mend(("k", 0, 1, "a")).shows(net, net), False)

    def test_any_change_that_mends_not_the_first_one_alone(self):
        net = Net({"k": ((), (("m", "m"),)), "m": ((), (("x",),))}, {"in": "k", "on": "m"}, ["x"])
        self.assertEqual(judge_change(net, net), Mend(("k", 0, 0, "x")))
        self.assertIs(Mend(("k", 0, 1, "x")).shows(net, net), True)
        self.assertIs(Mend(("k", 0, 1, "m")).shows(net, net), False)

    def test_nets_that_are_none_or_do_not_end(self):
        net = Net({"k": ((), (("m",), ("x",))), "m": ((), (("y",),))}, {"in": "k"}, ["x", "y"])
        goal = Net({"k": ((), (("x",),))}, {"in": "k"}, ["x", "y"])
        self.assertIs(Mend(("k", 0, 0, "x")).shows(net, goal), False)
        self.assertIs(Mend(("m", 0, 0, "m")).shows(net, goal), False)
        self.assertIs(Mend(("m", 0, 0, "k")).shows(net, goal), True)

    def test_equality(self):
        found = Mend(("k", 0, 1, "a"))
        self.assertEqual((found, found.change, bool(found)), (Mend(("k", 0, 1, "a")), ("k", 0, 1, "a"), True))
        for other in (Mend(("k", 0, 1, "b")), NoMend({}), None):
            self.assertNotEqual(found, other)


class ShowingNoMend(unittest.TestCase):
    """[22] What NoMend shows, and what it does not."""

    def setUp(self):
        self.net = Net({"k": ((), (("a",), ("b",)))}, {"in": "k", "on": "k"}, ["a", "b"])
        self.goal = Net({"k": ((), (("b",), ("a",)))}, {"in": "k", "on": "k"}, ["a", "b"])
        self.told = judge_change(self.net, self.goal).told

    def shows(self, told):
        return NoMend(told).shows(self.net, self.goal)

    def test_what_is_returned_and_the_like(self):
        self.assertEqual(len(self.told), 4)
        self.assertIs(self.shows(self.told), True)
        self.assertIs(self.shows(dict(reversed(self.told.items()))), True)
        self.assertIs(self.shows({**self.told, ("k", 0, 0, "k"): {"in": 1, "on": 1}}), True)
        self.assertIs(self.shows({**self.told, ("k", 0, 0, "b"): {"on": 10 ** 20, "in": 10 ** 20}}), True)
        self.assertIs(self.shows({**self.told, ("k", 0, 0, "b"): {"on": 0, "in": 7}}), True)

    def test_changes_left_out_and_one_too_many(self):
        for change in self.told:
            self.assertIs(self.shows({other: balls for other, balls in self.told.items() if other != change}), False)
        self.assertIs(self.shows({}), False)
        for more in (("k", 0, 0, "a"), ("k", 0, 1, "b"), ("k", 2, 0, "b"), ("q", 0, 0, "b"), ("k", 0, 0, "in"), ("k", -1, 0, "a"),
                     ("k", 0, 0, "")):
            self.assertIs(self.shows({**self.told, more: {"in": 1, "on": 0}}), False)
            less = {change: balls for change, balls in self.told.items() if change != ("k", 0, 0, "b")}
            self.assertIs(self.shows({**less, more: {"in": 1, "on": 0}}), False)

    def test_balls_that_bring_the_same_or_are_none(self):
        for change in self.told:
            for balls in ({"in": 0, "on": 0}, {}, {"in": 1}, {"on": 2}, {"in": -1, "on": 2}, {"in": 2, "on": 0, "k": 0},
                          {"in": 2, "q": 0}, {"k": 2, "a": 0}):
                self.assertIs(self.shows({**self.told, change: balls}), False, balls)
        self.assertIs(self.shows({**self.told, ("k", 0, 0, "b"): {"in": 1, "on": 0}}), False)

    def test_where_a_change_mends(self):
        goal = changed(self.net, ("k", 0, 0, "b"))
        self.assertIs(NoMend(self.told).shows(self.net, goal), False)
        self.assertIs(NoMend({}).shows(self.net, goal), False)

    def test_copies_and_equality(self):
        balls = {"in": 1}
        told = {("k", 0, 0, "a"): balls}
        found = NoMend(told)
        balls["in"] = 5
        told.clear()
        self.assertEqual((found.told, found, bool(found)), ({("k", 0, 0, "a"): {"in": 1}}, NoMend({("k", 0, 0, "a"): {"in": 1}}),
                                                            False))
        for other in (NoMend({}), NoMend({("k", 0, 0, "a"): {"in": 2}}), NoMend({("k", 0, 0, "b"): {"in": 1}}),
                      Mend(("k", 0, 0, "a")), None):
            self.assertNotEqual(found, other)
        self.told[("k", 0, 0, "b")]["in"] = 0
        self.told.pop(("k", 0, 0, "k"))
        self.assertIs(judge_change(self.net, self.goal).shows(self.net, self.goal), True)


class BegunLike(unittest.TestCase):
    """[22] The first standing from which a net is alike another one."""

    def test_the_order(self):
        same = Net({"a": ((), (("x",), ("y",), ("x",), ("y",))), "b": ((), (("x",), ("x",)))}, {"in": "a", "on": "b"}, ["x", "y"])
        self.assertEqual(begun_like(same, same), {"a": 0, "b": 0})
        self.assertEqual(begun_like(same, begun_at(same, {"a": 3, "b": 1})), {"a": 1, "b": 0})
        self.assertEqual(begun_like(same, begun_at(same, {"a": 2, "b": 1})), {"a": 0, "b": 0})

    def test_fewer_knots_off_their_first_places_first(self):
        net = Net({"a": ((), (("b",), ("x",))), "b": ((), (("x",), ("y",))), "c": ((), (("y",), ("x",)))},
                  {"in": "a", "on": "b", "up": "c"}, ["x", "y"])
        for standing in plain.all_standings(net):
            found = begun_like(net, begun_at(net, standing))
            self.assertEqual(found, standing)
        # Whether one knot is at its second place or two others are is the same.
        net = Net({"a": ((), (("x",), ("x",))), "b": ((), (("x",), ("y",))), "c": ((), (("b",), ("b",)))},
                  {"in": "c", "on": "a"}, ["x", "y"])
        self.assertEqual(begun_like(net, begun_at(net, {"a": 1, "b": 1, "c": 1})), {"a": 0, "b": 1, "c": 0})

    def test_one_knot_off_its_first_place_ahead_of_two(self):
        net = Net({"a": ((), (("x",), ("y",))), "b": ((), (("x",), ("y",))), "c": ((), (("a",), ("b",)))}, {"in": "c"}, ["x", "y"])
        goal = begun_at(net, {"a": 0, "b": 1, "c": 1})
        self.assertEqual([standing for standing in plain.all_standings(net) if judge_alike(begun_at(net, standing), goal)],
                         [{"a": 0, "b": 1, "c": 1}, {"a": 1, "b": 0, "c": 0}])
        self.assertEqual(begun_like(net, goal), {"a": 1, "b": 0, "c": 0})

    def test_fronts_and_other_knots(self):
        net = Net({"k": ((("x",), ("x",)), (("y",), ("x",)))}, {"in": "k"}, ["x", "y"])
        goal = Net({"p": ((), (("q",),)), "q": ((("x",),), (("y",), ("x",)))}, {"in": "p"}, ["x", "y"])
        self.assertEqual(begun_like(net, goal), {"k": 1})
        self.assertEqual(begun_like(net, begun_at(goal, {"p": 0, "q": 1})), {"k": 2})

    def test_none(self):
        self.assertIs(begun_like(halves(), Net({"k": ((), (("a",),))}, {"in": "k"}, ["a", "b"])), None)
        self.assertIs(begun_like(halves(), Net({"k": ((("a",),), (("a",), ("b",)))}, {"in": "k"}, ["a", "b"])), None)

    def test_one_by_one(self):
        kinds = {True: 0, False: 0}
        for seed in range(120):
            net, dice = samples.made(seed), Random(seed)
            standings = plain.all_standings(net)
            if len(standings) > 60:
                continue
            goal = goal_for(net, dice)
            standings.sort(key=lambda standing: (sum(place != 0 for place in standing.values()), tuple(standing.values())))
            expected = next((standing for standing in standings
                             if plain.same_for_ever(net, goal, standing, plain.start(goal))), None)
            found = begun_like(net, goal)
            self.assertEqual(found, expected)
            kinds[found is not None] += 1
            if found is not None:
                self.assertEqual(list(found), list(net.knots))
                self.assertIs(bool(judge_alike(begun_at(net, found), goal)), True)
        self.assertTrue(min(kinds.values()) > 15, kinds)


class Wrong(unittest.TestCase):
    """[1], [22] Errors, those documented first ahead."""

    def test_pairs_of_nets(self):
        for call in (judge_change, begun_like, Mend(("a", 0, 0, "x")).shows, Mend(None).shows, NoMend({}).shows):
            samples.refuse_pairs(self, call)

    def test_nothing_is_changed(self):
        net, goal = fronted(), begun_at(fronted(), {"k": 3, "m": 1})
        change = ("k", 0, 0, "m")
        changed(net, change)
        judge_change(net, goal)
        begun_like(net, goal)
        self.assertEqual((net, goal, change), (fronted(), begun_at(fronted(), {"k": 3, "m": 1}), ("k", 0, 0, "m")))
