"""Balls that come in one at a time, with room for so many at each knot ([21])."""

import unittest
from random import Random

from ballchutes.errors import BadBalls, BadNet, BadNumber, NeverEnds
from ballchutes.nets import Net
from ballchutes.rooms import Fits, Jams, judge_room, least_room
from ballchutes.settling import settle
from tests import plain, samples


def doubling():
    """The net of the document's example, in which one ball brings two to a knot."""
    return Net({"k": ((), (("m", "m"),)), "m": ((), (("out",), ("k",), ("out",)))}, {"in": "k"}, ["out"])


def looping():
    """A net in which a knot lets balls fall to itself."""
    return Net({"a": ((), (("a", "a", "x"), (), ()))}, {"in": "a", "on": "a"}, ["x"])


def met(net, balls, room):
    """All counts that steps with this room lead to, and whether one of them is the end, by playing all of them."""
    inlets, knots = sorted(net.inlets), sorted(net.knots)
    first = (0,) * (len(inlets) + len(knots))
    found, near, ends = {first: None}, [(first, {knot: 0 for knot in knots}, net.start())], False
    while near:
        counts, waits, standing = near.pop()
        came = dict(zip(inlets, counts))
        if not any(waits.values()) and all(came[inlet] == balls.get(inlet, 0) for inlet in inlets):
            ends = True
        for at, name in enumerate(inlets + knots):
            then, places = dict(waits), dict(standing)
            if at < len(inlets):
                if came[name] == balls.get(name, 0):
                    continue
                then[net.inlets[name]] += 1
            else:
                if not then[name]:
                    continue
                then[name] -= 1
                for target in plain.drop_at(net, name, places[name]):
                    if target in then:
                        then[target] += 1
                places[name] = plain.next_place(net, name, places[name])
            more = counts[:at] + (counts[at] + 1,) + counts[at + 1:]
            if max(then.values()) <= room and more not in found:
                found[more] = None
                near.append((more, then, places))
    return set(found), ends


class Judging(unittest.TestCase):
    """[21] Whether balls fit into a room."""

    def test_the_example(self):
        net = doubling()
        self.assertEqual([least_room(net, {"in": 2}), bool(judge_room(net, {"in": 2}, 1)),
                          len(judge_room(net, {"in": 2}, 2).steps)], [2, False, 17])

    def test_fits(self):
        net = samples.told()
        found = judge_room(net, {"in": 3}, 1)
        self.assertEqual((bool(found), sorted(found.steps)), (True, ["a"] * 4 + ["b"] * 2 + ["in"] * 3))
        self.assertIs(found.shows(net, {"in": 3}, 1), True)
        taken = settle(net, {"in": 3}).taken
        self.assertEqual({knot: found.steps.count(knot) for knot in net.knots}, taken)

    def test_jams(self):
        found = judge_room(doubling(), {"in": 2}, 1)
        self.assertEqual((bool(found), sorted(found.counts)), (False, [(0, 0, 0), (1, 0, 0)]))
        self.assertIs(found.shows(doubling(), {"in": 2}, 1), True)

    def test_no_balls(self):
        for net in (samples.told(), doubling(), looping(), samples.twelve()):
            for balls in ({}, {inlet: 0 for inlet in net.inlets}, {sorted(net.inlets)[0]: 0}):
                found = judge_room(net, balls, 1)
                self.assertEqual((found, bool(found)), (Fits([]), True))
                self.assertIs(found.shows(net, balls, 1), True)
                self.assertEqual(least_room(net, balls), 1)

    def test_rooms_up_to_nine(self):
        for many in (1, 2, 3, 4):
            net = Net({"a": ((), (("b",) * many,)), "b": ((), (("x",),))}, {"in": "a"}, ["x"])
            self.assertEqual([bool(judge_room(net, {"in": 2}, room)) for room in range(1, 10)],
                             [room >= many for room in range(1, 10)])
            self.assertEqual(least_room(net, {"in": 2}), many)

    def test_jams_in_room_nine(self):
        net = Net({"a": ((("a",) * 4,) * 3, (("x",),))}, {"in": "a"}, ["x"])
        found = judge_room(net, {"in": 1}, 9)
        self.assertEqual((bool(found), least_room(net, {"in": 1}), found.shows(net, {"in": 1}, 9)), (False, None, True))
        self.assertEqual(found.counts, [(0, 0), (1, 0), (1, 1), (1, 2)])
        self.assertEqual((least_room(net, {"in": 0}), least_room(samples.begun(net, {"a": 1}), {"in": 1})), (1, 7))
        just = Net({"a": ((("a",) * 4, ("a",) * 4, ("a",) * 3), (("x",),))}, {"in": "a"}, ["x"])
        self.assertEqual((least_room(just, {"in": 1}), bool(judge_room(just, {"in": 1}, 8))), (9, False))
        wide = Net({"a": ((), (("a", "a", "a", "x"),) * 3 + ((),) * 7)}, {"in": "a"}, ["x"])
        self.assertEqual([least_room(wide, {"in": many}) for many in (1, 2, 3, 4)], [7, 7, 7, 7])

    def test_steps_that_must_wait(self):
        """A ball that comes in too early jams; steps are chosen so that none does."""
        net = Net({"a": ((), (("b", "b"), ("x",))), "b": ((), (("y",),))}, {"in": "a", "on": "b"}, ["x", "y"])
        self.assertEqual(least_room(net, {"in": 2, "on": 2}), 2)
        found = judge_room(net, {"in": 5, "on": 3}, 2)
        self.assertEqual((bool(found), found.shows(net, {"in": 5, "on": 3}, 2)), (True, True))
        self.assertIs(bool(judge_room(net, {"on": 3}, 1)), True)
        self.assertIs(bool(judge_room(net, {"in": 1, "on": 3}, 1)), False)

    def test_inlets_left_out(self):
        net = Net({"a": ((), (("x",),)), "b": ((), (("x", "x"),))}, {"in": "a", "on": "b"}, ["x"])
        self.assertEqual(sorted(judge_room(net, {"on": 2}, 1).steps), ["b", "b", "on", "on"])
        self.assertEqual(judge_room(net, {"on": 2}, 1), judge_room(net, {"on": 2, "in": 0}, 1))

    def test_inlets_that_lead_to_one_knot(self):
        self.assertEqual(least_room(looping(), {"in": 1, "on": 1}), 2)
        found = judge_room(looping(), {"in": 2, "on": 1}, 2)
        self.assertEqual((bool(found), found.steps.count("in"), found.steps.count("on")), (True, 2, 1))
        self.assertIs(found.shows(looping(), {"in": 2, "on": 1}, 2), True)
        jams = judge_room(looping(), {"in": 2, "on": 1}, 1)
        self.assertEqual((bool(jams), set(jams.counts)), (False, {(0, 0, 0), (1, 0, 0), (0, 1, 0)}))

    def test_fronts(self):
        net = Net({"a": ((("b", "b", "b"), ()), (("b",),)), "b": ((), (("x",),))}, {"in": "a"}, ["x"])
        self.assertEqual([least_room(net, {"in": many}) for many in range(4)], [1, 3, 3, 3])

    def test_one_by_one(self):
        kinds = {True: 0, False: 0}
        for seed in range(250):
            net, dice = samples.made(seed), Random(seed)
            balls = {inlet: dice.randint(0, 4) for inlet in net.inlets if dice.random() < 0.9}
            if not 5 <= sum(plain.rest(net, balls, net.start())[0].values()) <= 25:
                continue
            fitting = []
            for room in (1, 2, 3, 4, 9):
                counts, ends = met(net, balls, room)
                found = judge_room(net, balls, room)
                self.assertIs(bool(found), ends)
                self.assertIs(found.shows(net, balls, room), True)
                fitting += [room] * ends
                kinds[ends] += room < 5
                if not ends:
                    self.assertEqual(set(found.counts), counts)
            least = least_room(net, balls)
            self.assertTrue(least == fitting[0] if fitting and fitting[0] < 9 else least is None or 5 <= least <= 9)
            if least is None:
                self.assertEqual(fitting, [])
        self.assertTrue(min(kinds.values()) > 30, kinds)

    def test_two_thousand_counts(self):
        net = Net({"a": ((), (("b",),)), "b": ((), (("c",),)), "c": ((), (("x",),))}, {"in": "a"}, ["x"])
        for many, room in ((14, 9), (20, 1)):
            found = judge_room(net, {"in": many}, room)
            self.assertEqual((bool(found), len(found.steps)), (True, 4 * many))
            self.assertIs(found.shows(net, {"in": many}, room), True)
        self.assertEqual(least_room(net, {"in": 14}), 1)


class ShowingFits(unittest.TestCase):
    """[21] What Fits shows, and what it does not."""

    def shows(self, *steps, balls=None, room=2):
        net = Net({"a": ((), (("b", "b"), ("x",))), "b": ((), (("y",),))}, {"in": "a", "on": "b"}, ["x", "y"])
        return Fits(steps).shows(net, {"in": 1, "on": 1} if balls is None else balls, room)

    def test_steps(self):
        self.assertIs(self.shows("in", "a", "b", "b", "on", "b"), True)
        self.assertIs(self.shows("on", "b", "in", "a", "b", "b"), True)
        self.assertIs(self.shows("in", "on", "b", "a", "b", "b"), True)
        self.assertIs(self.shows("in", "a", "b", "on", "b", "b"), True)

    def test_too_early_an_end(self):
        steps = ["in", "a", "b", "b", "on", "b"]
        for many in range(len(steps)):
            self.assertIs(self.shows(*steps[:many]), False)
        self.assertIs(self.shows("in", "a", "b", "b"), False)
        self.assertIs(self.shows("in", "a", "b", "b", balls={"in": 1}), True)

    def test_what_does_not_wait(self):
        for steps in (("a", "in", "b", "b", "on", "b"), ("in", "b", "a", "b", "on", "b"), ("in", "a", "b", "b", "b", "on"),
                      ("in", "a", "b", "b", "on", "b", "b"), ("in", "a", "a", "b", "b", "on", "b")):
            self.assertIs(self.shows(*steps), False, steps)

    def test_too_many_that_wait(self):
        self.assertIs(self.shows("in", "on", "a", "b", "b", "b"), False)
        self.assertIs(self.shows("in", "on", "a", "b", "b", "b", room=3), True)
        self.assertIs(self.shows("in", "a", "on", "b", "b", "b"), False)
        self.assertIs(self.shows("in", "a", "b", "b", "on", "b", room=1), False)

    def test_balls_that_are_not_told(self):
        self.assertIs(self.shows("in", "a", "b", "b", "on", "b", "on", "b"), False)
        self.assertIs(self.shows("in", "a", "b", "b", "on", "b", balls={"in": 1}), False)
        self.assertIs(self.shows("in", "a", "b", "b", balls={"in": 2}), False)
        for name in ("x", "q", "", "y"):
            self.assertIs(self.shows("in", "a", "b", "b", "on", "b", name), False)
            self.assertIs(self.shows(name, "in", "a", "b", "b", "on", "b"), False)

    def test_no_steps(self):
        self.assertIs(self.shows(balls={}), True)
        self.assertIs(self.shows(balls={"in": 0}), True)
        self.assertIs(self.shows(), False)

    def test_copies_and_equality(self):
        steps = ["in", "a"]
        found = Fits(steps)
        steps.append("b")
        self.assertEqual((found.steps, found, bool(found)), (["in", "a"], Fits(("in", "a")), True))
        for other in (Fits(["in"]), Fits([]), Jams(["in", "a"]), None):
            self.assertNotEqual(found, other)
        net = samples.single()
        found = judge_room(net, {"in": 1}, 1)
        found.steps.append("a")
        self.assertIs(found.shows(net, {"in": 1}, 1), False)
        self.assertEqual(judge_room(net, {"in": 1}, 1), Fits(["in", "a"]))


class ShowingJams(unittest.TestCase):
    """[21] What Jams shows, and what it does not."""

    def setUp(self):
        self.net = Net({"a": ((), (("b",), ("b", "b", "b"))), "b": ((), (("x",),))}, {"in": "a", "on": "b"}, ["x"])
        self.balls = {"in": 2, "on": 1}
        self.counts = judge_room(self.net, self.balls, 2).counts

    def shows(self, counts, balls=None, room=2):
        return Jams(counts).shows(self.net, balls or self.balls, room)

    def test_what_is_returned_and_the_like(self):
        self.assertIs(self.shows(self.counts), True)
        self.assertIs(self.shows(tuple(self.counts[::-1] * 2)), True)
        self.assertIs(self.shows(self.counts, room=1), True)
        self.assertIs(self.shows(self.counts, room=3), False)

    def test_tuples_left_out(self):
        for at in range(len(self.counts)):
            self.assertIs(self.shows(self.counts[:at] + self.counts[at + 1:]), False, self.counts[at])
        self.assertIs(self.shows([]), False)

    def test_more_taken_than_came(self):
        for wrong in ((0, 0, 1, 0), (1, 0, 2, 0), (1, 0, 1, 2), (0, 1, 0, 2), (0, 0, 0, 1), (0, 0, 10 ** 30, 10 ** 30)):
            self.assertIs(self.shows(self.counts + [wrong]), False)

    def test_what_can_be_no_counts(self):
        for wrong in ((3, 0, 0, 0), (0, 2, 0, 0), (-1, 0, 0, 0), (0, 0, -1, 0), (0, 0, 0, -1), (), (0, 0, 0), (0,) * 5, (1, 0, 0),
                      (10 ** 30, 0, 0, 0)):
            self.assertIs(self.shows(self.counts + [wrong]), False, wrong)

    def test_less_than_none_taken(self):
        """Steps lead from such tuples to others that are told; but nothing is done less often than not at all."""
        for at in range(4):
            less = [counts[:at] + (counts[at] - 1,) + counts[at + 1:] for counts in self.counts]
            self.assertIs(self.shows(self.counts + less), False)
            self.assertIs(self.shows(self.counts + [counts for counts in less if counts not in self.counts]), False)

    def test_the_end_among_them(self):
        end = (2, 1, 2, 5)
        everything = sorted(met(self.net, self.balls, 9)[0])
        self.assertIn(end, everything)
        self.assertIs(self.shows(everything), False)
        self.assertIs(self.shows(self.counts + [end]), False)
        for balls in ({"in": 1}, {"in": 1, "on": 1}, {}, {"on": 1}):
            self.assertIs(self.shows(sorted(met(self.net, balls, 2)[0]), balls or {"in": 0}), False)

    def test_tuples_that_steps_do_not_lead_to(self):
        """More tuples may stand, if steps lead from them to others that are told."""
        more = [counts for counts in sorted(met(self.net, self.balls, 3)[0]) if counts not in self.counts]
        self.assertIn((2, 0, 2, 1), more)
        # Three wait at b there; with room for two the one step takes one of them.
        self.assertIs(self.shows(self.counts + [(2, 0, 2, 1)]), False)
        self.assertIs(self.shows(self.counts + [(2, 0, 2, 0)]), True)
        self.assertIs(self.shows(self.counts + [(2, 0, 2, 1), (2, 0, 2, 2), (2, 0, 2, 3), (2, 0, 2, 4)]), False)

    def test_copies_and_equality(self):
        counts = [(0, 0)]
        found = Jams(counts)
        counts.append((1, 0))
        self.assertEqual((found.counts, found, bool(found)), ([(0, 0)], Jams(((0, 0),)), False))
        for other in (Jams([]), Jams([(0, 1)]), Fits([(0, 0)]), None):
            self.assertNotEqual(found, other)
        found = judge_room(self.net, self.balls, 2)
        found.counts.pop()
        self.assertIs(found.shows(self.net, self.balls, 2), False)
        self.assertIs(judge_room(self.net, self.balls, 2).shows(self.net, self.balls, 2), True)


class Wrong(unittest.TestCase):
    """[1], [21] Errors, those documented first ahead."""

    WRONG_BALLS = (None, [], "in", 3, {"a": 1}, {"in": -1}, {"in": True}, {"in": "1"}, {"q": 0}, {"in": 1, "b": 0}, {1: 1},
                   {"in": None}, [("in", 1)], {"x": 1}, {None: 0})

    def test_nets(self):
        for call in (judge_room, Fits([]).shows, Jams([]).shows):
            samples.refuse_nets(self, ((call, ({"in": 1}, 1)), (call, ({"q": 1}, 0))))
        samples.refuse_nets(self, ((least_room, ({"in": 1},)), (least_room, (None,))))

    def test_balls_then_rooms(self):
        net = samples.told()
        for call in (judge_room, Fits([]).shows, Jams([]).shows):
            for balls in self.WRONG_BALLS:
                for room in (1, 0, 10, None):
                    with self.assertRaises(BadBalls):
                        call(net, balls, room)
            for room in (0, 10, -1, True, False, None, "2", (2,), [3], 10 ** 30):
                for balls in ({"in": 1}, {}):
                    with self.assertRaises(BadNumber):
                        call(net, balls, room)
            with self.assertRaises(NeverEnds):
                call(samples.endless()["itself"], None, 0)
            with self.assertRaises(BadNet):
                call(5, None, 0)
        for balls in self.WRONG_BALLS:
            with self.assertRaises(BadBalls):
                least_room(net, balls)

    def test_nothing_is_changed(self):
        net, balls = doubling(), {"in": 2}
        judge_room(net, balls, 2)
        least_room(net, balls)
        self.assertEqual((net, balls), (doubling(), {"in": 2}))
