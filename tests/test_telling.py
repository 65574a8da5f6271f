"""Standings that are told apart by lists of inlets ([20])."""

import unittest
from itertools import combinations, product
from random import Random

from ballchutes.errors import BadNet, BadNumber, BadStanding, NeverEnds
from ballchutes.joining import begun_at
from ballchutes.nets import Net
from ballchutes.telling import Telling, homing, telling
from ballchutes.ways import told_apart, ways
from tests import plain, samples


def thirds():
    """A net of one knot, with one ball of three for an outlet."""
    return Net({"k": ((), (("a",), ("b",), ("b",)))}, {"in": "k"}, ["a", "b"])


def both():
    """A net with two inlets, each of which tells some standings apart that the other one does not."""
    return Net({"a": ((), (("x",), ("y",))), "b": ((), (("x",), ("x",), ("y",)))}, {"i": "a", "j": "b"}, ["x", "y"])


def spoiling():
    """A net, and four of its standings, each two of which some list tells apart, but no one list all."""
    net = Net({"a": ((("b",),), ((), ("b",), ("x",))), "b": ((("b", "a"),), (("x",), ("x", "a")))}, {"in": "a", "on": "b"}, ["x"])
    return net, [{"a": 0, "b": 1}, {"a": 0, "b": 2}, {"a": 3, "b": 0}, {"a": 3, "b": 2}]


def lists_up_to(net, longest):
    """All lists of inlets, shorter ones first, then as lists."""
    return [list(told) for length in range(longest + 1) for told in product(sorted(net.inlets), repeat=length)]


def parted(net, inlets, standings):
    """The pairs of numbers that a list of inlets tells apart."""
    rows = [plain.out_of(net, inlets, standing) for standing in standings]
    return {pair for pair in combinations(range(len(standings)), 2) if rows[pair[0]] != rows[pair[1]]}


def behind_all(net, inlets, standing):
    for inlet in inlets:
        standing = plain.row_behind(net, inlet, standing)[1]
    return standing


def can_part(net, standings):
    """The pairs of numbers that some list of inlets tells apart."""
    return {(one, other) for one, other in combinations(range(len(standings)), 2)
            if not plain.same_for_ever(net, net, standings[one], standings[other])}


def is_home(net, inlets, standings):
    """Whether the rows of a list of inlets tell where the net stands."""
    ends = [behind_all(net, inlets, standing) for standing in standings]
    told = parted(net, inlets, standings)
    return all(pair in told or ends[pair[0]] == ends[pair[1]] for pair in combinations(range(len(standings)), 2))


def some_standings(net, dice, most=4):
    standings = plain.all_standings(net)
    return [dice.choice(standings) for _ in range(dice.randint(2, most))]


class TellingApart(unittest.TestCase):
    """[20] The first list that tells all standings apart that any does."""

    def test_the_example(self):
        net, standings = thirds(), [{"k": 0}, {"k": 1}, {"k": 2}]
        found = telling(net, standings)
        self.assertEqual([found.balls, found.pairs, found.closed, homing(net, standings),
                          telling(net, [{"k": 1}, {"k": 1}]).pairs], [["in", "in"], [], [], ["in", "in"], [(0, 1)]])

    def test_standings_twice(self):
        found = telling(thirds(), ({"k": 1}, {"k": 0}, {"k": 1}, {"k": 0}))
        self.assertEqual((found.balls, found.pairs), (["in"], [(0, 2), (1, 3)]))
        self.assertEqual(found.closed[:2], [({"k": 1}, {"k": 1}), ({"k": 0}, {"k": 0})])
        self.assertIs(found.shows(thirds(), [{"k": 1}, {"k": 0}, {"k": 1}, {"k": 0}]), True)
        found = telling(thirds(), [{"k": 2}] * 6)
        self.assertEqual((found.balls, len(found.pairs)), ([], 15))
        self.assertEqual(found.pairs, sorted(found.pairs))
        self.assertIs(found.shows(thirds(), [{"k": 2}] * 6), True)

    def test_pairs_that_no_list_tells_apart(self):
        net = Net({"k": ((), (("x",), ("y",), ("x",), ("y",)))}, {"in": "k"}, ["x", "y"])
        standings = [{"k": at} for at in (0, 1, 2, 3)]
        found = telling(net, standings)
        self.assertEqual((found.balls, found.pairs), (["in"], [(0, 2), (1, 3)]))
        self.assertEqual(found.closed[:2], [({"k": 0}, {"k": 2}), ({"k": 1}, {"k": 3})])
        self.assertIs(found.shows(net, standings), True)
        self.assertIs(homing(net, standings), None)
        self.assertIs(homing(net, standings[:3]), None)
        self.assertEqual(homing(net, standings[:2]), ["in"])

    def test_pairs_come_first_in_their_order(self):
        net = Net({"k": ((), (("x",), ("y",), ("x",), ("y",))), "m": ((), (("x",), ("x",)))}, {"in": "k", "on": "m"},
                  ["x", "y"])
        standings = [{"k": 3, "m": 0}, {"k": 0, "m": 1}, {"k": 1, "m": 1}, {"k": 2, "m": 1}]
        found = telling(net, standings)
        self.assertEqual(found.pairs, [(0, 2), (1, 3)])
        self.assertEqual(found.closed[:2], [(standings[0], standings[2]), (standings[1], standings[3])])
        self.assertIs(found.shows(net, standings), True)

    def test_nothing_comes_out(self):
        net = Net({"k": ((), ((), ()))}, {"in": "k"}, ["x"])
        found = telling(net, [{"k": 0}, {"k": 1}])
        self.assertEqual((found.balls, found.pairs, found.closed), ([], [(0, 1)], [({"k": 0}, {"k": 1}), ({"k": 1}, {"k": 0})]))
        self.assertIs(homing(net, [{"k": 0}, {"k": 1}]), None)
        self.assertEqual(homing(net, [{"k": 1}, {"k": 1}]), [])

    def test_two_inlets(self):
        standings = plain.all_standings(both())
        found = telling(both(), standings)
        self.assertEqual((found.balls, found.pairs, found.closed), (["i", "j", "j"], [], []))
        self.assertEqual(homing(both(), standings), ["i", "j", "j"])
        self.assertEqual(telling(both(), [{"a": 0, "b": 0}, {"a": 0, "b": 2}]).balls, ["j"])

    def test_no_one_list(self):
        net, standings = spoiling()
        self.assertEqual(can_part(net, standings), set(combinations(range(4), 2)))
        self.assertIs(telling(net, standings), None)
        self.assertFalse(any(parted(net, inlets, standings) == can_part(net, standings) for inlets in lists_up_to(net, 8)))
        for pair in combinations(standings, 2):
            self.assertEqual(telling(net, pair).pairs, [])
        self.assertEqual(homing(net, standings), ["in", "in", "on"])
        self.assertEqual([inlets for inlets in lists_up_to(net, 3) if is_home(net, inlets, standings)][0], ["in", "in", "on"])

    def test_no_one_list_but_a_pair_that_none_tells_apart(self):
        net, standings = spoiling()
        self.assertIs(telling(net, [*standings, standings[0]]), None)
        self.assertEqual(homing(net, [*standings, standings[0]]), ["in", "in", "on"])

    def test_homing_that_is_no_telling(self):
        gone = Net({"k": ((("x",),), (("x",),))}, {"in": "k"}, ["x"])
        self.assertEqual(homing(gone, [{"k": 0}, {"k": 1}]), ["in"])
        found = telling(gone, [{"k": 0}, {"k": 1}])
        self.assertEqual((found.balls, found.pairs, found.closed), ([], [(0, 1)], [({"k": 0}, {"k": 1}), ({"k": 1}, {"k": 1})]))
        self.assertIs(found.shows(gone, [{"k": 0}, {"k": 1}]), True)
        # The first ball at i leads both to one standing, and the same comes out; one at j tells them apart.
        net = Net({"a": ((("b",),), (("x",),)), "b": ((("x",),), (("y",),))}, {"i": "a", "j": "b"}, ["x", "y"])
        pair = [{"a": 0, "b": 0}, {"a": 1, "b": 1}]
        self.assertEqual((homing(net, pair), telling(net, pair).balls), (["i"], ["j"]))
        self.assertEqual((homing(net, pair[::-1]), parted(net, ["i", "j"], pair)), (["i"], set()))

    def test_one_by_one(self):
        kinds = {"told": 0, "same": 0, "none": 0, "home": 0, "not home": 0}
        for seed in range(160):
            net, dice = samples.made(seed), Random(seed)
            if len(plain.all_standings(net)) > 40:
                continue
            standings = some_standings(net, dice)
            found, able = telling(net, standings), can_part(net, standings)
            lists = lists_up_to(net, 6 if len(net.inlets) == 1 else 4)
            first = next((inlets for inlets in lists if parted(net, inlets, standings) == able), None)
            if found is None:
                self.assertIsNone(first)
                kinds["none"] += 1
            elif first is not None or len(found.balls) <= 4:
                self.assertEqual(found.balls, first)
            if found is not None:
                self.assertEqual(set(found.pairs), set(combinations(range(len(standings)), 2)) - able)
                self.assertEqual(found.pairs, sorted(found.pairs))
                self.assertIs(found.shows(net, standings), True)
                self.assertEqual(found.closed[:len(found.pairs)], [(standings[one], standings[other])
                                                                   for one, other in found.pairs])
                kinds["told" if able else "same"] += 1
            home = homing(net, standings)
            first = next((inlets for inlets in lists if is_home(net, inlets, standings)), None)
            if home is None or len(home) <= 4 or first is not None:
                self.assertEqual(home, first)
            kinds["not home" if home is None else "home"] += 1
        self.assertTrue(kinds["told"] > 20 and kinds["same"] > 5 and kinds["home"] > 20 and kinds["not home"] > 5, kinds)

    def test_six_standings(self):
        net = Net({"a": ((), (("b",), ("x",), ("x",))), "b": ((), (("x",), ("y",)))}, {"in": "a", "on": "b"}, ["x", "y"])
        standings = plain.all_standings(net)
        found = telling(net, standings)
        self.assertIs(found.shows(net, standings), True)
        self.assertEqual(parted(net, found.balls, standings), can_part(net, standings))
        self.assertFalse(any(parted(net, inlets, standings) == can_part(net, standings)
                             for inlets in lists_up_to(net, len(found.balls) - 1)))
        self.assertTrue(is_home(net, homing(net, standings), standings))

    def test_pairs_and_nets_begun_at_standings(self):
        net = samples.fronted()
        found = ways(net)
        for one, other in combinations(range(min(6, len(found))), 2):
            pair = [found.standings[one], found.standings[other]]
            inlets = told_apart(found, one, other)
            apart = telling(net, pair)
            self.assertEqual((apart.balls, apart.pairs), (inlets or [], [] if inlets else [(0, 1)]))
            nets = [begun_at(net, standing) for standing in pair]
            self.assertEqual(plain.parting(*nets, len(inlets or "four")), inlets)


class Showing(unittest.TestCase):
    """[20] What Telling shows, and what it does not."""

    def setUp(self):
        self.net = Net({"k": ((), (("x",), ("y",), ("z",), ("x",), ("y",), ("z",)))}, {"in": "k", "on": "k"}, ["x", "y", "z"])
        self.standings = [{"k": 0}, {"k": 1}, {"k": 3}, {"k": 2}]
        self.found = telling(self.net, self.standings)

    def shows(self, standings=None, **changes):
        told = {"balls": self.found.balls, "pairs": self.found.pairs, "closed": self.found.closed, **changes}
        return Telling(**told).shows(self.net, standings or self.standings)

    def test_what_is_returned_and_the_like(self):
        self.assertEqual((self.found.balls, self.found.pairs, len(self.found.closed)), (["in"], [(0, 2)], 6))
        self.assertIs(self.shows(), True)
        self.assertIs(self.shows(standings=tuple(self.standings)), True)

    def test_lists_that_are_not_the_first_one(self):
        for balls in (["on"], ["in", "in"], ["on", "in", "on"], ("in", "on"), ["in"] * 500):
            self.assertIs(self.shows(balls=balls), True)

    def test_lists_that_do_not_tell_a_pair_apart(self):
        for balls in ([], ["q"], ["k"], ["in", "q"], ["x"], [""]):
            self.assertIs(self.shows(balls=balls), False)
        net = thirds()
        closed = [({"k": 1}, {"k": 2})]
        self.assertIs(Telling(["in"], [], []).shows(net, [{"k": 1}, {"k": 2}]), False)
        self.assertIs(Telling(["in", "in"], [], []).shows(net, [{"k": 1}, {"k": 2}]), True)
        self.assertIs(Telling(["in"], [(0, 1)], closed).shows(net, [{"k": 1}, {"k": 2}]), False)

    def test_other_pairs(self):
        for pairs in ([], [(0, 1)], [(0, 2), (0, 1)], [(0, 1), (0, 2)], [(0, 2), (1, 3)], [(2, 0)], [(0, 2), (0, 2)], [(0, 0)],
                      [(0, 2), (2, 2)], [(0, -2)], [(0, 3)], [(0, 2), (7, 9)], [(-4, 2)], [(0, 2), (2, 0)], [(0, 10 ** 30)]):
            self.assertIs(self.shows(pairs=pairs), False, pairs)

    def test_other_closed_lists(self):
        closed = self.found.closed
        for at in range(len(closed)):
            self.assertIs(self.shows(closed=closed[:at] + closed[at + 1:]), False)
        self.assertIs(self.shows(closed=[]), False)
        self.assertIs(self.shows(closed=[(other, one) for one, other in closed[:3]]), False)
        for wrong in (({"k": 0}, {"k": 1}), ({"k": 0}, {}), ({}, {"k": 0}), ({"k": 0}, {"k": 6}), ({"k": -1}, {"k": 0}),
                      ({"k": 0}, {"k": 0, "q": 0}), ({"q": 0}, {"k": 3}), ({"k": 0}, {"k": 10 ** 30})):
            self.assertIs(self.shows(closed=closed + [wrong]), False, wrong)

    def test_closed_lists_with_more_that_is_so(self):
        self.assertIs(self.shows(closed=self.found.closed + [({"k": at}, {"k": at}) for at in range(6)]), True)
        self.assertIs(self.shows(closed=self.found.closed + [({"k": 0}, {"k": 0})]), False)
        self.assertIs(self.shows(closed=self.found.closed * 2), True)

    def test_pairs_in_the_other_order(self):
        """The first of a pair of numbers is the first of the pair of standings."""
        net = Net({"k": ((("x",),), (("x",),))}, {"in": "k"}, ["x"])
        for closed, expected in (([({"k": 0}, {"k": 1}), ({"k": 1}, {"k": 1})], True),
                                 ([({"k": 1}, {"k": 0}), ({"k": 1}, {"k": 1})], False),
                                 ([({"k": 1}, {"k": 1}), ({"k": 1}, {"k": 0}), ({"k": 0}, {"k": 1})], True)):
            self.assertIs(Telling([], [(0, 1)], closed).shows(net, [{"k": 0}, {"k": 1}]), expected)

    def test_other_standings(self):
        self.assertIs(self.shows(standings=self.standings[::-1]), False)
        self.assertIs(self.shows(standings=self.standings[:3]), True)
        self.assertIs(self.shows(standings=self.standings[:2]), False)
        self.assertIs(self.shows(standings=[*self.standings, {"k": 4}]), False)

    def test_copies_and_equality(self):
        standing = {"k": 0}
        balls, pairs, closed = ["in"], [(0, 1)], [(standing, {"k": 1})]
        found = Telling(balls, pairs, closed)
        balls.append("on")
        pairs.clear()
        closed.clear()
        standing["k"] = 5
        self.assertEqual((found.balls, found.pairs, found.closed), (["in"], [(0, 1)], [({"k": 0}, {"k": 1})]))
        self.assertEqual(found, Telling(("in",), ((0, 1),), (({"k": 0}, {"k": 1}),)))
        for other in (Telling([], [(0, 1)], [({"k": 0}, {"k": 1})]), Telling(["in"], [], [({"k": 0}, {"k": 1})]),
                      Telling(["in"], [(0, 1)], []), None):
            self.assertNotEqual(found, other)
        self.found.balls.clear()
        self.assertIs(self.found.shows(self.net, self.standings), False)
        self.assertIs(telling(self.net, self.standings).shows(self.net, self.standings), True)


class Wrong(unittest.TestCase):
    """[1], [20] Errors, those documented first ahead."""

    def test_errors(self):
        net = samples.told()
        start = net.start()
        calls = (telling, homing, Telling([], [], []).shows)
        for call in calls:
            for told in ([start, start], [start], None):
                samples.refuse_nets(self, ((call, (told,)),))
            for told in ([], [start], (start,), [start] * 7, (start,) * 7, None, start, 2, "ab", {0: start, 1: start}, [{}],
                         [{}] * 7):
                with self.assertRaises(BadNumber):
                    call(net, told)
            for wrong in samples.wrong_standings(net):
                for told in ([start, wrong], (wrong, start), [start] * 5 + [wrong], [wrong, wrong]):
                    with self.assertRaises(BadStanding):
                        call(net, told)
            with self.assertRaises(NeverEnds):
                call(samples.endless()["itself"], [])
            with self.assertRaises(BadNet):
                call({}, [])

    def test_nothing_is_changed(self):
        net, standings = both(), [{"b": 1, "a": 0}, {"a": 1, "b": 1}]
        found = telling(net, standings)
        homing(net, standings)
        found.balls.append("q")
        self.assertEqual((net, standings), (both(), [{"b": 1, "a": 0}, {"a": 1, "b": 1}]))
        self.assertEqual(list(standings[0]), ["b", "a"])
        self.assertEqual(telling(net, standings).balls, ["i"])
