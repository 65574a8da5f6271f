"""What ends ([5])."""

import unittest
from random import Random

from ballchutes.ending import Ends, Never, ends, judge_ends
from ballchutes.errors import BadNet
from ballchutes.nets import Net
from ballchutes.settling import played
from tests import plain, samples


class Judging(unittest.TestCase):
    """[5] There is always one of both, never both."""

    def test_the_example(self):
        one = Net({"a": ((), (("a", "a"), ("x",), ()))}, {"in": "a"}, ["x"])
        other = Net({"a": ((), (("a", "a"), ()))}, {"in": "a"}, [])
        self.assertEqual([bool(judge_ends(one)), bool(judge_ends(other))], [True, False])

    def test_nets_that_end(self):
        for net in (samples.told(), samples.single(), samples.fronted(), samples.gates(), samples.twelve(),
                    samples.walk()):
            found = judge_ends(net)
            self.assertIsInstance(found, Ends)
            self.assertIs(bool(found), True)
            self.assertIs(found.shows(net), True)
            self.assertIs(ends(net), True)
            self.assertEqual(list(found.weights), list(net.knots))

    def test_nets_that_do_not_end(self):
        for net in samples.endless().values():
            found = judge_ends(net)
            self.assertIsInstance(found, Never)
            self.assertIs(bool(found), False)
            self.assertIs(found.shows(net), True)
            self.assertIs(ends(net), False)
            self.assertEqual(list(found.balls), list(net.inlets))

    def test_nets_made_by_seeds(self):
        for seed in range(150):
            for ending in (True, False):
                net = samples.made(seed, ending)
                found = judge_ends(net)
                self.assertEqual((bool(found), ends(net), found.shows(net)), (ending, ending, True))

    def test_weights_are_without_common_divisors(self):
        self.assertEqual(judge_ends(Net({"a": ((), (("a", "a"), ("x",), (), ()))}, {"in": "a"}, ["x"])).weights["a"][1],
                         1)
        for seed in range(40):
            for top, bottom in judge_ends(samples.made(seed)).weights.values():
                self.assertTrue(top >= bottom >= 1)
                self.assertFalse(any(top % part == bottom % part == 0 for part in range(2, min(top, bottom) + 1)))

    def test_just_on_this_side_and_just_on_the_other(self):
        def ring(back):
            return Net({"a": ((), ((),) + (("b",),) * 11), "b": ((), (("a", "a"),) + (("a",),) * 9 + (back,))},
                       {"in": "a"}, ["x"])
        self.assertIs(ends(ring(("x",))), True)
        self.assertIs(judge_ends(ring(("x",))).shows(ring(("x",))), True)
        self.assertIs(ends(ring(("a", "x"))), False)

    def test_a_front_that_feeds_a_ring_does_not_keep_a_net_from_ending(self):
        net = Net({"a": ((("a", "a", "a", "a"),) * 12, (("b",), ())), "b": ((("a", "b", "b"),) * 12, (("x",),))},
                  {"in": "a"}, ["x"])
        self.assertIs(ends(net), True)
        self.assertIs(judge_ends(net).shows(net), True)

    def test_twelve_knots_that_go_on(self):
        knots = {}
        for at, name in enumerate(samples.NAMES):
            behind = samples.NAMES[(at + 1) % 12]
            knots[name] = ((("x",),) * 12, ((),) * 11 + ((behind,) * (4 if at % 2 else 3),))
        self.assertIs(ends(Net(knots, {"in": "c"}, ["x"])), True)
        knots = {name: (front, (turn[-1],) * (at % 12 + 1) + turn[:11 - at % 12])
                 for at, (name, (front, turn)) in enumerate(knots.items())}
        net = Net(knots, {"in": "c"}, ["x"])
        self.assertIs(ends(net), plain.ends(net))
        self.assertIs(judge_ends(net).shows(net), True)
        knots = {name: (front, (turn[0],) * 6 + ((),) * 6) for name, (front, turn) in knots.items()}
        net = Net(knots, {"in": "c"}, ["x"])
        self.assertIs(ends(net), False)
        self.assertIs(judge_ends(net).shows(net), True)

    def test_no_nets(self):
        for net in samples.NO_NETS:
            for call in (judge_ends, ends, Ends({}).shows, Never({}, [], []).shows):
                with self.assertRaises(BadNet) as caught:
                    call(net)
                self.assertIsNone(caught.exception.name)


class ShowsEnds(unittest.TestCase):
    """[5] What Ends shows, and what it does not."""

    def setUp(self):
        self.net = Net({"a": ((("a",) * 4,), (("b",), ("x",))), "b": ((), (("a", "x"), (), ()))}, {"in": "a"}, ["x"])
        # a: at least 1 and half of b's; b: at least 1 and a third of a's.
        self.least = {"a": (9, 5), "b": (8, 5)}

    def shows(self, **weights):
        return Ends({**self.least, **weights}).shows(self.net)

    def test_the_least_weights_and_larger_ones(self):
        self.assertEqual(judge_ends(self.net).weights, self.least)
        self.assertIs(self.shows(), True)
        self.assertIs(self.shows(a=(18, 10), b=(800, 500)), True)
        self.assertIs(self.shows(a=(2, 1), b=(2, 1)), True)
        self.assertIs(self.shows(a=(10 ** 40, 1), b=(10 ** 40, 1)), True)

    def test_smaller_weights(self):
        self.assertIs(self.shows(a=(9 * 10 ** 9 - 1, 5 * 10 ** 9)), False)
        self.assertIs(self.shows(b=(8 * 10 ** 9 - 1, 5 * 10 ** 9)), False)
        self.assertIs(self.shows(a=(100, 1)), False)
        self.assertIs(self.shows(b=(100, 1)), False)
        self.assertIs(self.shows(a=(1, 1), b=(1, 1)), False)
        self.assertIs(Ends({"a": (1, 1)}).shows(samples.single()), True)
        self.assertIs(Ends({"a": (99, 100)}).shows(samples.single()), False)
        self.assertIs(Ends({"a": (0, 1)}).shows(samples.single()), False)
        self.assertIs(Ends({"a": (-5, 1)}).shows(samples.single()), False)

    def test_balls_that_fall_to_one_knot_count_each(self):
        net = Net({"a": ((), (("a", "a"), ("x",), ()))}, {"in": "a"}, ["x"])
        self.assertIs(Ends({"a": (3, 1)}).shows(net), True)
        self.assertIs(Ends({"a": (2, 1)}).shows(net), False)
        self.assertIs(Ends({"a": (299, 100)}).shows(net), False)

    def test_what_is_no_fraction(self):
        for wrong in ((9, 0), (-9, -5), (2, -1), (0, 0), [9, 5], (9, 5, 1), (9, True)):
            self.assertIs(self.shows(a=wrong), False)
            self.assertIs(self.shows(b=wrong), False)

    def test_other_knots(self):
        self.assertIs(Ends({"a": (9, 5)}).shows(self.net), False)
        self.assertIs(Ends({}).shows(self.net), False)
        self.assertIs(self.shows(q=(1, 1)), False)
        self.assertIs(self.shows(x=(1, 1)), False)
        self.assertIs(Ends({"b": (8, 5), "a": (9, 5)}).shows(self.net), True)

    def test_no_weights_are_enough_where_a_net_goes_on(self):
        for net in samples.endless().values():
            for weight in ((1, 1), (5, 2), (1000, 1), (0, 1), (-1, 1), (-1000, 1)):
                self.assertIs(Ends({knot: weight for knot in net.knots}).shows(net), False)

    def test_copies_changes_and_equality(self):
        weights = {"a": (9, 5), "b": (8, 5)}
        found = Ends(weights)
        weights["a"] = (1, 1)
        self.assertEqual(found.weights, self.least)
        self.assertEqual(found, judge_ends(self.net))
        self.assertNotEqual(found, Ends({"a": (18, 10), "b": (8, 5)}))
        self.assertNotEqual(found, self.least)
        self.assertNotEqual(Ends({}), Never({}, [], []))
        found.weights = {"a": (1, 1), "b": (8, 5)}
        self.assertIs(found.shows(self.net), False)
        self.assertEqual(judge_ends(self.net).weights, self.least)


class ShowsNever(unittest.TestCase):
    """[5] What Never shows, and what it does not."""

    def setUp(self):
        self.net = Net({"a": ((("x",),), (("b",), ("c",))), "b": ((("x",), ()), (("a", "a"),)),
                        "c": ((), (("x",), ()))}, {"in": "a", "on": "c"}, ["x"])
        self.told = {"balls": {"in": 5, "on": 1}, "lead": [("a", 5), ("b", 2)], "ring": [("a", 2), ("b", 1)]}

    def shows(self, **changes):
        return Never(**{**self.told, **changes}).shows(self.net)

    def test_evidence_that_is_told(self):
        # Behind five balls at a two wait at b, which are used up by its front.
        self.assertIs(self.shows(), False)
        self.told["balls"] = {"in": 7, "on": 1}
        self.assertIs(self.shows(), True)
        self.assertIs(self.shows(balls={"in": 7}), True)
        self.assertIs(self.shows(balls={"in": 7, "on": 0}), True)
        self.assertIs(self.shows(balls={"on": 5, "in": 8}), True)
        self.assertIs(self.shows(ring=[("a", 1), ("a", 1), ("b", 1)]), True)
        self.assertIs(self.shows(ring=[("a", 2), ("b", 1)] * 3), True)
        self.assertIs(self.shows(lead=tuple(self.told["lead"]), ring=tuple(self.told["ring"])), True)
        self.assertIs(self.shows(ring=[("c", 2)]), False)
        self.assertIs(self.shows(ring=[("c", 2), ("a", 2), ("b", 1)]), False)

    def test_other_balls(self):
        self.told["balls"] = {"in": 7, "on": 1}
        for balls in ({"in": 6}, {"in": 5, "on": 9}, {}, {"on": 7}, {"in": -1, "on": 1}, {"in": 7, "on": -1},
                      {"in": 7, "a": 0}, {"a": 7}, {"in": 7, "q": 0}, {"in": 7, "b": 1}):
            self.assertIs(self.shows(balls=balls), False)

    def test_other_leads(self):
        self.told["balls"] = {"in": 7, "on": 1}
        for lead in ([], [("a", 5)], [("a", 4)], [("b", 2), ("a", 5)], [("a", 8), ("b", 2)], [("a", 0)],
                     [("a", 5), ("b", 2), ("q", 1)], [("in", 7)], [("a", -1), ("a", 6), ("b", 2)],
                     [("a", 5), ("b", 2), ("c", 4)]):
            self.assertIs(self.shows(lead=lead), False)

    def test_other_rings(self):
        self.told["balls"] = {"in": 7, "on": 1}
        for ring in ([], [("a", 2)], [("b", 1), ("a", 2)], [("a", 1), ("b", 1)], [("a", 2), ("b", 0)],
                     [("a", 2), ("b", 2)], [("a", 4), ("b", 1)], [("a", 2), ("b", 1), ("q", 1)], [("in", 2)],
                     [("a", 2), ("b", 1), ("c", 1)], [("a", 2), ("b", 1), ("a", 1)]):
            self.assertIs(self.shows(ring=ring), False)

    def test_a_ring_must_leave_the_standing(self):
        net = Net({"a": ((("a",), ("a",)), (("a", "a"), ()))}, {"in": "a"}, [])
        self.assertIs(Never({"in": 2}, [], [("a", 1), ("a", 1)]).shows(net), False)
        self.assertIs(Never({"in": 2}, [], [("a", 2), ("a", 2)]).shows(net), False)
        self.assertIs(Never({"in": 2}, [("a", 2)], [("a", 2)]).shows(net), True)
        self.assertIs(Never({"in": 2}, [("a", 2)], [("a", 1)]).shows(net), False)
        self.assertIs(Never({"in": 2}, [("a", 2), ("a", 1)], [("a", 1), ("a", 1)]).shows(net), True)

    def test_a_ring_must_leave_as_many_balls_everywhere(self):
        net = Net({"a": ((), (("a",),)), "c": ((), (("x",),))}, {"in": "a", "on": "c"}, ["x"])
        for many in (1, 2):
            self.assertIs(Never({"in": 1, "on": many}, [], [("a", 1)]).shows(net), True)
            self.assertIs(Never({"in": 1, "on": many}, [], [("a", 1), ("c", 1)]).shows(net), False)
        self.assertIs(Never({"in": 1, "on": 1}, [("c", 1)], [("a", 1)]).shows(net), True)
        self.assertIs(Never({"on": 1}, [], [("c", 1)]).shows(net), False)

    def test_no_net_that_ends_has_one(self):
        for net in (samples.told(), samples.gates(), samples.single()):
            balls = {inlet: 50 for inlet in net.inlets}
            lead = [("a", 6)]
            self.assertIs(Never(balls, lead, [("a", 6)]).shows(net), False)
            self.assertIs(Never(balls, [], [("a", 12)]).shows(net), False)

    def test_the_lead_and_ring_that_are_returned_can_be_played(self):
        for net in samples.endless().values():
            found = judge_ends(net)
            waits, _, standing = played(net, found.balls, found.lead)
            again, _, same = played(net, found.balls, found.lead + found.ring * 5)
            self.assertEqual(standing, same)
            self.assertTrue(all(again.get(knot, 0) >= many for knot, many in waits.items()))
            self.assertTrue(found.ring)

    def test_one_thing_changed_in_what_is_returned(self):
        for seed in range(40):
            net, dice = samples.made(seed, False), Random(seed)
            found = judge_ends(net)
            found.ring = found.ring + [(dice.choice(found.ring)[0], 10 ** 60)]
            self.assertIs(found.shows(net), False)
            found = judge_ends(net)
            found.ring = []
            self.assertIs(found.shows(net), False)
            found = judge_ends(net)
            found.balls = {}
            self.assertIs(found.shows(net), False)

    def test_copies_and_equality(self):
        balls, lead, ring = {"in": 7}, [("a", 1)], [("a", 2)]
        found = Never(balls, lead, ring)
        balls["in"] = 8
        lead.append(("a", 1))
        ring.append(("a", 1))
        self.assertEqual((found.balls, found.lead, found.ring), ({"in": 7}, [("a", 1)], [("a", 2)]))
        self.assertEqual(found, Never({"in": 7}, (("a", 1),), (("a", 2),)))
        self.assertEqual(Never({}, (("a", 1),), ()).lead, [("a", 1)])
        for other in (Never({"in": 8}, [("a", 1)], [("a", 2)]), Never({"in": 7}, [], [("a", 2)]),
                      Never({"in": 7}, [("a", 1)], []), None):
            self.assertNotEqual(found, other)
