"""The whole program: attributes, errors in the order of the interface, and points that hold together ([1] to [26])."""

import importlib
import unittest
from fractions import Fraction
from itertools import combinations
from math import gcd
from random import Random

from ballchutes.alikes import Alike, Told, judge_alike
from ballchutes.books import Book
from ballchutes.changing import Mend, NoMend, begun_like, changed, judge_change
from ballchutes.courses import Course, course
from ballchutes.ending import Ends, Never, ends, judge_ends
from ballchutes.errors import (BadBalls, BadChange, BadGoal, BadNet, BadNumber, BadOrder, BadStanding, NeverEnds, NoPart,
                               NotBack, Unlike)
from ballchutes.evenness import Even, Uneven, judge_even
from ballchutes.freeing import Bound, Free, free_sets, judge_free
from ballchutes.goals import Met, Short, judge_goal, just_goal
from ballchutes.groups import factors, many_times, standing_with, sum_of
from ballchutes.joining import begun_at, joined, renamed, straight
from ballchutes.lags import Levels, lag, levels, spread
from ballchutes.making import made
from ballchutes.nets import Net
from ballchutes.nettexts import read_net, write_net
from ballchutes.reaching import Barred, Reaches, fewest_to, judge_reach, reaching_sets
from ballchutes.rooms import Fits, Jams, judge_room, least_room
from ballchutes.rounds import (Round, ahead, comes_back, first_back, many_back, round_of, same_back)
from ballchutes.settling import Settled, knots_in_turn, played, settle
from ballchutes.shares import Shares, gained, share_of, shares
from ballchutes.telling import Telling, homing, telling
from ballchutes.tidying import alike_places, is_tidy, tidied, tidied_standing
from ballchutes.trailing import Falls, Keeps, judge_behind, least_behind
from ballchutes.ways import Ways, classes_of, told_apart, ways
from tests import plain, samples
from tests.test_groups import few

NO_NET = (0, None, BadNet, None)
ENDLESS = (0, samples.endless()["itself"], NeverEnds)
START = {"a": 0, "b": 0}
GONE = {"a": 1, "b": 1}
UNLIKE_INLETS = Net({"a": ((), (("z",),))}, {"on": "a"}, ["z"])
OTHER = Net({"c": ((), (("z",),))}, {"on": "c"}, ["z"])
UNLIKE_OUTLETS = Net({"a": ((), (("z",),))}, {"in": "a"}, ["z"])


def bad_standing(at):
    return (at, {"a": 0}, BadStanding)


def no_part(at, name="q"):
    return (at, name, NoPart, name)


def in_turn(net, balls, standing=None):
    return list(knots_in_turn(net, balls, standing))


def put_fourth(net, name):
    """Puts a net into a book that has as many as it can have."""
    book = Book()
    for at in range(Book.MOST):
        book.put(str(at), samples.single())
    return book.put(name, net)


TWO = samples.told()
PAIR = [NO_NET, (1, None, BadNet, None), ENDLESS, (1, samples.endless()["itself"], NeverEnds),
        (1, UNLIKE_INLETS, Unlike, "inlets"), (1, UNLIKE_OUTLETS, Unlike, "outlets")]
NET = [NO_NET, ENDLESS]
GOAL = [*NET, bad_standing(-1), (1, {"q": 1}, BadGoal)]
# What each function takes, and then the errors, in the order in which the interface tells them, each by the place of
# the argument that brings it about, the argument, and what its attribute says.
CALLS = [
    (settle, [{"in": 1}, START], [*NET, (1, {"x": 1}, BadBalls), bad_standing(2)]),
    (in_turn, [{"in": 1}, START], [*NET, (1, {"x": 1}, BadBalls), bad_standing(2)]),
    (played, [{"in": 1}, [("a", 1)], START], [NO_NET, (1, {"x": 1}, BadBalls), bad_standing(3), (2, None, BadOrder, None),
                                              (2, [("a", 1), ("b", 2)], BadOrder, 1)]),
    (Settled({}, {}, {}, []).shows, [{"in": 1}, START], [NO_NET, (1, {"x": 1}, BadBalls), bad_standing(2)]),
    (judge_ends, [], [NO_NET]), (ends, [], [NO_NET]), (Ends({}).shows, [], [NO_NET]), (Never({}, [], []).shows, [], [NO_NET]),
    (comes_back, [START], [*NET, bad_standing(1)]), (first_back, [START], [*NET, bad_standing(1)]), (many_back, [], NET),
    (ahead, [START, "a"], [*NET, no_part(2), bad_standing(1), (1, GONE, NotBack)]),
    (same_back, [{"in": 1}, {"a": 1}], [*NET, (1, {"x": 1, "q": 2}, NoPart, "x"), (2, {"in": 1, "q": 1}, NoPart, "q")]),
    (round_of, ["in"], [*NET, no_part(1)]), (Round(1, {}).shows, ["in"], [*NET, no_part(1, "x")]),
    (shares, ["x"], [*NET, no_part(1)]), (Shares({}).shows, ["x"], [*NET, no_part(1, "in")]),
    (share_of, ["in", "x"], [*NET, no_part(1), no_part(2, "a")]), (gained, ["in", "x"], [*NET, no_part(1), no_part(2, "a")]),
    (levels, ["x"], [*NET, no_part(1)]), (Levels({}, {}).shows, ["x"], [*NET, no_part(1, "a")]),
    (lag, ["x", START, START], [*NET, no_part(1), bad_standing(2), bad_standing(3)]), (spread, ["x"], [*NET, no_part(1)]),
    (course, ["in", START], [*NET, bad_standing(2), no_part(1)]),
    (Course([], [(1,)]).shows, ["in", START], [*NET, bad_standing(2), no_part(1)]),
    (ways, [START], [*NET, bad_standing(1)]), (Ways([], []).shows, [START], [*NET, bad_standing(1)]),
    (judge_alike, [TWO], PAIR), (Alike([]).shows, [TWO], PAIR), (Told({}).shows, [TWO], PAIR),
    (begun_at, [START], [NO_NET, bad_standing(1)]), (straight, [], [NO_NET]), (write_net, [], [NO_NET]),
    (renamed, [{"a": "c"}], [NO_NET, (1, {"q": "a", "a": "b"}, NoPart, "q"), (1, {"a": "b"}, BadNet, "b")]),
    (joined, [OTHER, {"x": "on"}], [NO_NET, (1, None, BadNet, None), (2, {"x": "q"}, NoPart, "q"),
                                    (1, UNLIKE_INLETS, BadNet, "a")]),
    (put_fourth, ["0"], [NO_NET, (1, "13", NoPart, None)]),
    (judge_free, [["a"]], [*NET, (1, None, NoPart, None), (1, ["a", "in"], NoPart, "in")]), (free_sets, [], NET),
    (Free([]).shows, [["a"]], [*NET, (1, None, NoPart, None), (1, ["a", "in"], NoPart, "in")]),
    (Bound({}, {}).shows, [["a"]], [*NET, (1, None, NoPart, None), (1, ["a", "in"], NoPart, "in")]),
    (judge_even, ["x", "y"], [*NET, no_part(1), no_part(2, "a")]),
    (Even(0, 0, {}, {}, []).shows, ["x", "y"], [*NET, no_part(1), no_part(2, "a")]),
    (Uneven("in", 3, 1).shows, ["x", "y"], [*NET, no_part(1), no_part(2, "a")]),
    (judge_goal, [{"x": 1}, START], GOAL), (Met({}, {}).shows, [{"x": 1}, START], GOAL),
    (Short("x", 1).shows, [{"x": 1}, START], GOAL), (just_goal, [{"x": 1}, 5, START], [*GOAL, (2, 41, BadNumber)]),
    *[(call, [[START, START]], [*NET, (1, [START], BadNumber), (1, [START, {}], BadStanding)])
      for call in (telling, homing, Telling([], [], []).shows)],
    *[(call, [{"in": 1}, 3], [*NET, (1, {"a": 1}, BadBalls), (2, 10, BadNumber)])
      for call in (judge_room, Fits([]).shows, Jams([]).shows)],
    (least_room, [{"in": 1}], [*NET, (1, {"a": 1}, BadBalls)]),
    (changed, [("a", 1, 0, "y")], [NO_NET, (1, ("a", 0, 0, "in"), BadChange), (1, ("a", 0, 0, "x"), BadNet, "b")]),
    (judge_change, [TWO], PAIR), (begun_like, [TWO], PAIR), (Mend(None).shows, [TWO], PAIR), (NoMend({}).shows, [TWO], PAIR),
    (sum_of, [START], [*NET, bad_standing(1)]), (factors, [], NET), (standing_with, [{"a": 1}], [*NET, (1, {"in": 1}, BadBalls)]),
    (many_times, [START, 2], [*NET, bad_standing(1), (1, GONE, NotBack), (2, True, BadBalls)]),
    *[(call, [START, START, ["a"]], [*NET, bad_standing(1), bad_standing(2), (1, GONE, NotBack), (2, GONE, NotBack),
                                     (3, None, NoPart, None), (3, ["a", "x"], NoPart, "x")])
      for call in (judge_reach, Reaches({}).shows, Barred({}, 2).shows)],
    (fewest_to, [START, START, "a"], [*NET, bad_standing(1), bad_standing(2), (1, GONE, NotBack), (2, GONE, NotBack), no_part(3)]),
    (reaching_sets, [], NET),
    (is_tidy, [], [NO_NET]), (tidied, [], [NO_NET]), (alike_places, [], [NO_NET]),
    (tidied_standing, [START], [NO_NET, bad_standing(1)]),
    *[(call, ["x", "y", 3], [*NET, no_part(1), no_part(2, "a"), (3, 101, BadBalls)])
      for call in (judge_behind, Keeps([]).shows, Falls([]).shows)],
    (least_behind, ["x", "y"], [*NET, no_part(1), no_part(2, "a")]),
]
ATTRIBUTES = {"name": (BadNet, NoPart), "place": (BadOrder,), "what": (Unlike,)}


class Errors(unittest.TestCase):
    """[1] and the interface: of several errors that apply the one documented first is raised."""

    def refused(self, call, told, error):
        kind = error[2]
        with self.assertRaises(kind) as caught:
            call(*told)
        self.assertIs(type(caught.exception), kind, (call, told))
        for name, kinds in ATTRIBUTES.items():
            if kind in kinds:
                self.assertEqual(getattr(caught.exception, name), error[3], (call, told))

    def test_each_error_and_each_two_of_them(self):
        for call, good, errors in CALLS:
            told = [samples.told(), *good]
            call(*told)
            for error in errors:
                one = list(told)
                one[error[0]] = error[1]
                self.refused(call, one, error)
            for first, second in combinations(errors, 2):
                both = list(told)
                both[second[0]] = second[1]
                both[first[0]] = first[1]
                self.refused(call, both, first)

    def test_all_at_once(self):
        for call, good, errors in CALLS:
            for at in range(len(errors)):
                told = [samples.told(), *good]
                for error in reversed(errors[at:]):
                    told[error[0]] = error[1]
                self.refused(call, told, errors[at])

    def test_every_function_and_every_shows_is_looked_at(self):
        looked = {getattr(call, "__qualname__", "") for call, _, _ in CALLS}
        looked |= {"knots_in_turn", "Book.put", "Made.shows", "classes_of", "told_apart", "made", "least_wheels", "read_net"}
        from tests.test_interface import CLASSES, FUNCTIONS
        for functions in FUNCTIONS.values():
            self.assertLessEqual(set(functions), looked)
        for classes in CLASSES.values():
            for name, methods in classes.items():
                if "shows" in methods:
                    self.assertIn(f"{name}.shows", looked)

    def test_no_net_of_any_kind(self):
        for call, good, errors in CALLS:
            for net in samples.NO_NETS:
                self.refused(call, [net, *good], NO_NET)
            if ENDLESS in errors:
                for net in samples.endless().values():
                    self.refused(call, [net, *good], ENDLESS)

    def test_what_is_asked_of_nets_that_do_not_end(self):
        """Playing, ending, nets from nets, texts, one change and tidy knots are."""
        net = samples.endless()["one more out"]
        self.assertEqual(played(net, {"in": 1}, [("a", 1), ("b", 1)]), ({"a": 1}, {"x": 1}, {"a": 0, "b": 0}))
        self.assertIs(Settled({}, {}, {}, []).shows(net, {"in": 1}), False)
        self.assertIs(Settled({"a": 0, "b": 0}, {"x": 0}, START, []).shows(net, {}), True)
        self.assertEqual((ends(net), begun_at(net, START), straight(net).knots), (False, net, {"b": ((), (("b", "x"),))}))
        self.assertEqual(renamed(net, {"x": "z"}).outlets, ("z",))
        self.assertEqual(read_net(write_net(net)), net)
        self.assertEqual(tidied(net), net)
        self.assertIs(ends(changed(net, ("b", 0, 0, "x"))), True)
        self.assertIs(Book().put("on", net), None)

    def test_a_call_that_is_refused_changes_nothing(self):
        net = samples.told()
        for call, good, errors in CALLS:
            for error in errors:
                told = [net, *good]
                told[error[0]] = error[1]
                before = repr([vars(each) if isinstance(each, Net) else each for each in told])
                with self.assertRaises(error[2]):
                    call(*told)
                self.assertEqual(repr([vars(each) if isinstance(each, Net) else each for each in told]), before)
        self.assertEqual(net, samples.told())


class Attributes(unittest.TestCase):
    """[1] and the interface: the attributes of evidence are set, are copies, and may be told as tuples."""

    MADE = {
        "settling.Settled": {"taken": {"a": 1}, "out": {"x": 1}, "standing": {"a": 0}, "order": [("a", 1)]},
        "ending.Ends": {"weights": {"a": (2, 1)}},
        "ending.Never": {"balls": {"in": 1}, "lead": [("a", 1)], "ring": [("a", 2)]},
        "rounds.Round": {"many": 3, "turns": {"a": 1}},
        "shares.Shares": {"worths": {"a": (1, 2)}},
        "lags.Levels": {"worths": {"a": (1, 2)}, "heights": {"a": [(0, 1), (1, 2)]}},
        "courses.Course": {"front": [(1,)], "period": [(0,), (2,)]},
        "ways.Ways": {"standings": [{"a": 0}], "steps": [{"in": (0, (1,))}]},
        "alikes.Alike": {"pairs": [(0, 0)]},
        "alikes.Told": {"balls": {"in": 2}},
        "freeing.Free": {"pairs": [({"a": 0}, {"a": 1})]},
        "freeing.Bound": {"standing": {"a": 1}, "balls": {"in": 2}},
        "evenness.Even": {"least": 0, "most": 1, "low": {"in": 0}, "high": {"in": 1}, "standings": [{"a": 0}]},
        "evenness.Uneven": {"inlet": "in", "balls": 3, "more": -1},
        "goals.Met": {"balls": {"in": 1}, "lacks": {(0,): "x"}},
        "goals.Short": {"outlet": "x", "most": 2},
        "telling.Telling": {"balls": ["in"], "pairs": [(0, 1)], "closed": [({"a": 0}, {"a": 1})]},
        "rooms.Fits": {"steps": ["in", "a"]},
        "rooms.Jams": {"counts": [(0, 0)]},
        "changing.Mend": {"change": ("a", 0, 0, "x")},
        "changing.NoMend": {"told": {("a", 0, 0, "x"): {"in": 1}}},
        "reaching.Reaches": {"balls": {"in": 1}},
        "reaching.Barred": {"weights": {"a": 1}, "modulus": 2},
        "trailing.Keeps": {"heights": [({"a": 0}, 1)]},
        "trailing.Falls": {"inlets": ["in"]},
    }

    def evidence(self, name):
        file, kind = name.split(".")
        return getattr(importlib.import_module(f"ballchutes.{file}"), kind)

    def test_attributes_are_as_told(self):
        for name, told in self.MADE.items():
            found = self.evidence(name)(**told)
            for attribute, value in told.items():
                self.assertEqual(getattr(found, attribute), value, (name, attribute))
                self.assertIs(type(getattr(found, attribute)), type(value))
            self.assertEqual(found, self.evidence(name)(*told.values()))
            self.assertIs(found == 5, False)
            self.assertIs(found != self.evidence(name)(**told), False)

    def test_lists_as_tuples(self):
        for name, told in self.MADE.items():
            found = self.evidence(name)(**{key: tuple(value) if isinstance(value, list) else value
                                           for key, value in told.items()})
            self.assertEqual(found, self.evidence(name)(**told))
            for attribute, value in told.items():
                self.assertEqual(getattr(found, attribute), value)
        heights = Levels({}, {"a": ((0, 1),)}).heights
        self.assertEqual(heights, {"a": [(0, 1)]})

    def test_copies(self):
        for name, told in self.MADE.items():
            given = {key: self.copied(value) for key, value in told.items()}
            found = self.evidence(name)(**given)
            for value in given.values():
                self.spoil(value)
            self.assertEqual(found, self.evidence(name)(**told), name)

    def copied(self, value):
        if isinstance(value, dict):
            return {key: self.copied(each) for key, each in value.items()}
        if isinstance(value, (list, tuple)):
            return type(value)(self.copied(each) for each in value)
        return value

    def spoil(self, value):
        """Changes what is given, and all in it that can be changed."""
        for each in value.values() if isinstance(value, dict) else value if isinstance(value, (list, tuple)) else ():
            self.spoil(each)
        if isinstance(value, (dict, list)):
            value.clear()

    def test_each_attribute_counts_for_equality(self):
        for name, told in self.MADE.items():
            for attribute, value in told.items():
                other = value + 1 if isinstance(value, int) else value + "b" if isinstance(value, str) else type(value)()
                self.assertNotEqual(self.evidence(name)(**told), self.evidence(name)(**{**told, attribute: other}))
        kinds = [self.evidence(name)(**told) for name, told in self.MADE.items()]
        for one, other in combinations(kinds, 2):
            self.assertNotEqual(one, other)

    def test_truth(self):
        for name in ("ending.Never", "alikes.Told", "freeing.Bound", "evenness.Uneven", "goals.Short", "rooms.Jams",
                     "changing.NoMend", "reaching.Barred", "trailing.Falls"):
            self.assertIs(bool(self.evidence(name)(**self.MADE[name])), False)
        for name in ("ending.Ends", "alikes.Alike", "freeing.Free", "evenness.Even", "goals.Met", "rooms.Fits",
                     "changing.Mend", "reaching.Reaches", "trailing.Keeps"):
            self.assertIs(bool(self.evidence(name)(**self.MADE[name])), True)


def nets(many=40, outlets=1):
    """Nets made by seeds with so many outlets at least, with dice for each."""
    found = [(samples.made(seed), Random(seed)) for seed in range(many)]
    return [(net, dice) for net, dice in found if len(net.outlets) >= outlets]


class Together(unittest.TestCase):
    """Points that speak of the same hold together."""

    def in_a_row(self):
        """Pairs of nets, with an outlet of the one and an inlet of the other, and the net in which these are linked."""
        for (one, dice), (other, _) in zip(nets(60), nets(120)[60:]):
            other = renamed(other, {name: f"{name}2" for name in [*other.knots, *other.inlets, *other.outlets]})
            met = [outlet for outlet in one.outlets if any(plain.worths(one, outlet).values())]
            if met:
                outlet, inlet = dice.choice(met), dice.choice(sorted(other.inlets))
                yield one, other, outlet, inlet, joined(one, other, {outlet: inlet}), dice

    def test_rounds_and_shares_of_nets_in_a_row(self):
        for one, other, outlet, inlet, net, _ in self.in_a_row():
            self.assertEqual(many_back(net), many_back(one) * many_back(other))
            out, many = gained(one, "in", outlet)
            times = round_of(other, inlet).many
            times = times // gcd(times, out)
            found = round_of(net, "in")
            self.assertEqual(found.many, many * times)
            for knot, turns in round_of(one, "in").turns.items():
                self.assertEqual(found.turns[knot], turns * times)
            share = Fraction(*share_of(one, "in", outlet))
            for last in other.outlets:
                self.assertEqual(Fraction(*share_of(net, "in", last)), share * Fraction(*share_of(other, inlet, last)))
            for first in one.outlets:
                if first != outlet:
                    self.assertEqual(share_of(net, "in", first), share_of(one, "in", first))

    def test_settling_nets_in_a_row(self):
        for one, other, outlet, inlet, net, dice in self.in_a_row():
            many = dice.randint(0, 30)
            first, whole = settle(one, {"in": many}), settle(net, {"in": many})
            behind = settle(other, {inlet: first.out[outlet]})
            self.assertEqual(whole.taken, {**first.taken, **behind.taken})
            self.assertEqual({last: whole.out[last] for last in other.outlets}, behind.out)
            self.assertEqual(whole.standing, {**first.standing, **behind.standing})

    def test_courses_against_rounds_and_shares(self):
        for net, dice in nets(60):
            for name in [*net.inlets, *net.knots]:
                told = course(net, name)
                many = round_of(net, name).many
                self.assertEqual(many % len(told.period), 0)
                begin = len(told.front)
                sums = [after - before for before, after in zip(told.total(begin), told.total(begin + many))]
                for place, outlet in enumerate(net.outlets):
                    self.assertEqual((sums[place], many), gained(net, name, outlet))
                    self.assertEqual(Fraction(sums[place], many), Fraction(*share_of(net, name, outlet)))
                back = course(net, name, first_back(net, samples.made_standing(net, dice)))
                self.assertEqual(back.front, [])

    def test_courses_against_settling_and_levels(self):
        for net, dice in nets(40):
            standing, many = samples.made_standing(net, dice), dice.randint(0, 60)
            found = settle(net, {"in": many}, standing)
            self.assertEqual(course(net, "in", standing).total(many), tuple(found.out.values()))
            for outlet in net.outlets:
                worth = Fraction(*share_of(net, "in", outlet)) * many
                self.assertEqual(worth - found.out[outlet], Fraction(*lag(net, outlet, standing, found.standing)))
                self.assertLessEqual(abs(worth - found.out[outlet]), Fraction(*spread(net, outlet)))

    def test_ways_against_courses_and_settling(self):
        for net, dice in nets(40):
            standing = samples.made_standing(net, dice)
            found = ways(net, standing)
            for inlet in net.inlets:
                told = course(net, inlet, standing)
                for many in (0, 1, 5, 17):
                    self.assertEqual(found.follow([inlet] * many)[1], told.total(many))
            inlets = [dice.choice(list(net.inlets)) for _ in range(9)]
            number, sums = found.follow(inlets)
            rest = settle(net, {inlet: inlets.count(inlet) for inlet in net.inlets}, standing)
            self.assertEqual((found.standings[number], sums), (rest.standing, tuple(rest.out.values())))

    def test_nets_begun_elsewhere_against_standings_told_apart(self):
        apart = 0
        for net, dice in nets(60):
            found = ways(net)
            numbers = [dice.randrange(len(found)) for _ in range(3)]
            standings = [found.standings[number] for number in numbers]
            told, classes = telling(net, standings), classes_of(found)
            for one, other in combinations(range(3), 2):
                inlets = told_apart(found, numbers[one], numbers[other])
                judged = judge_alike(begun_at(net, standings[one]), begun_at(net, standings[other]))
                self.assertIs(bool(judged), inlets is None)
                self.assertIs(classes[numbers[one]] == classes[numbers[other]], inlets is None)
                self.assertTrue(told is None or ((one, other) in told.pairs) == (inlets is None))
                if inlets is not None:
                    apart += 1
                    self.assertEqual(sum(judged.balls.values()), len(inlets))
                    self.assertEqual(telling(net, [standings[one], standings[other]]).balls, inlets)
        self.assertGreater(apart, 30)

    def test_tidied_nets_against_alike_ones_and_begun_ones(self):
        for net, dice in nets(40):
            standing = samples.made_standing(net, dice)
            twice = {knot: (front + turn[:1], (turn[1:] + turn[:1]) * 2) for knot, (front, turn) in net.knots.items()}
            longer = Net(twice, net.inlets, net.outlets)
            self.assertEqual(tidied(longer), tidied(net))
            self.assertIs(bool(judge_alike(longer, net)), True)
            self.assertEqual(tidied(begun_at(net, standing)), tidied(begun_at(tidied(net), tidied_standing(net, standing))))
            for knot, places in alike_places(net).items():
                for alike in places:
                    self.assertEqual(len({tidied_standing(net, {**standing, knot: at})[knot] for at in alike}), 1)

    def test_groups_against_standings_that_come_back(self):
        for seed in range(40):
            net, dice = few(seed), Random(seed)
            back = [standing for standing in plain.all_standings(net) if comes_back(net, standing)]
            self.assertEqual(len(back), many_back(net))
            self.assertEqual(len({plain.key(standing_with(net, {knot: many - sum_of(net, first_back(net, net.start()))[knot]
                                                                 for knot, many in sum_of(net, standing).items()}))
                                  for standing in back}), len(back))
            standing, knot = dice.choice(back), dice.choice(list(net.knots))
            start = sum_of(net, first_back(net, net.start()))
            more = {other: many - start[other] for other, many in sum_of(net, standing).items()}
            self.assertEqual(ahead(net, standing, knot), standing_with(net, {**more, knot: more[knot] - 1}))
            most = factors(net)[-1] if factors(net) else 1
            self.assertEqual(most, self.least_common([round_of(net, other).many for other in net.knots]))

    def least_common(self, numbers):
        found = 1
        for number in numbers:
            found = found * number // gcd(found, number)
        return found

    def test_reaching_against_rounds_and_the_same_balls(self):
        for seed in range(40):
            net, dice = few(seed), Random(seed)
            first = first_back(net, net.start())
            one = {knot: dice.randint(0, 6) for knot in net.knots}
            other = {inlet: dice.randint(0, 9) for inlet in net.inlets}
            ends_ = [settle(net, balls, first).standing for balls in (one, other)]
            self.assertIs(same_back(net, one, other), ends_[0] == ends_[1])
            self.assertIs(Reaches(other).shows(net, first, ends_[1], list(net.inlets)), True)
            self.assertIs(Reaches(other).shows(net, first, ends_[0], list(net.inlets)), same_back(net, one, other))
            for name in [*net.knots, *net.inlets]:
                many = fewest_to(net, ends_[0], ends_[1], name)
                self.assertIs(many is None, not judge_reach(net, ends_[0], ends_[1], [name]))
                self.assertTrue(many is None or many < round_of(net, name).many)
                self.assertEqual(fewest_to(net, ahead(net, ends_[0], name), ends_[0], name), 1 % round_of(net, name).many)
            for names in reaching_sets(net):
                self.assertIs(bool(judge_reach(net, *ends_, names)), True)

    def test_goals_against_courses(self):
        for net, dice in nets(60):
            net = Net(net.knots, {"in": "a"}, net.outlets) if self.is_met(net) else net
            if len(net.inlets) > 1:
                continue
            standing = samples.made_standing(net, dice)
            told = course(net, "in", standing)
            for place, outlet in enumerate(net.outlets):
                for many in (1, 2, 5):
                    found, least = judge_goal(net, {outlet: many}, standing), told.balls_for(place, many)
                    self.assertEqual(found.balls["in"] if found else None, least)
                    if not found:
                        self.assertEqual(found.most, told.total(10 ** 20)[place])
            for many in (3, 8):
                just = {outlet: out for outlet, out in zip(net.outlets, told.total(many))}
                if max(just.values()) <= 60:
                    self.assertLessEqual(just_goal(net, just, 40, standing)["in"], many)

    def is_met(self, net):
        try:
            return bool(Net(net.knots, {"in": "a"}, net.outlets))
        except BadNet:
            return False

    def test_never_behind_against_even_outlets_and_goals(self):
        for net, _ in nets(60, 2):
            for one, other in combinations(net.outlets, 2):
                even = judge_even(net, one, other)
                least = least_behind(net, one, other)
                if even:
                    self.assertEqual((least, least_behind(net, other, one)), (-even.least, even.most))
                    self.assertIs(bool(judge_behind(net, one, other, least)), True)
                elif least is not None:
                    self.assertGreater(even.more, 0)
                if least:
                    falls = judge_behind(net, one, other, least - 1)
                    out = settle(net, {inlet: falls.inlets.count(inlet) for inlet in net.inlets}).out
                    self.assertGreaterEqual(out[other] - out[one], least)

    def test_rooms_against_settling(self):
        for net, dice in nets(40):
            balls = {inlet: dice.randint(0, 2) for inlet in net.inlets}
            rest = settle(net, balls)
            if sum(rest.taken.values()) > 20:
                continue
            room = least_room(net, balls)
            if room is not None:
                steps = judge_room(net, balls, room).steps
                self.assertEqual({knot: steps.count(knot) for knot in net.knots}, rest.taken)
                order = [(name, 1) for name in steps if name in net.knots]
                self.assertEqual(played(net, balls, order), ({}, rest.out, rest.standing))
                self.assertIs(Settled(rest.taken, rest.out, rest.standing, order).shows(net, balls), True)
                self.assertTrue(room == 1 or not judge_room(net, balls, room - 1))

    def test_changes_against_alike_nets(self):
        for net, dice in nets(30):
            if len(plain.all_standings(net)) > 40:
                continue
            goal = begun_at(net, samples.made_standing(net, dice))
            self.assertIs(bool(judge_alike(begun_at(net, begun_like(net, goal)), goal)), True)
            found = judge_change(net, goal)
            if found:
                self.assertIs(bool(judge_alike(changed(net, found.change), goal)), True)
            else:
                for change, balls in found.told.items():
                    self.assertIs(Told(balls).shows(changed(net, change), goal), True)

    def test_free_starts_against_nets_begun_elsewhere(self):
        for net, _ in nets(30):
            if len(plain.all_standings(net)) > 30:
                continue
            free = free_sets(net)
            for knot in net.knots:
                alike = all(judge_alike(begun_at(net, {**net.start(), knot: at}), net)
                            for at in range(len(net.knots[knot][0]) + len(net.knots[knot][1])))
                self.assertIs(any(knot in names for names in free), alike)

    def test_texts_straight_nets_and_books(self):
        for net, _ in nets(40):
            again = read_net(write_net(net))
            self.assertEqual(again, net)
            book = Book()
            book.put("one", net)
            book.put("other", straight(net))
            self.assertIs(bool(book.claim_alike("one", "other")), True)
            for outlet in net.outlets:
                self.assertEqual(book.claim_share("other", "in", outlet), share_of(net, "in", outlet))
            self.assertIs(book.put("one", tidied(net)), None)

    def test_nets_for_shares_against_rounds_and_courses(self):
        for told, many in (({"x": 1, "y": 2}, 2), ({"x": 3, "y": 4, "z": 5}, 3), ({"x": 7}, 4), ({"x": 63, "y": 1}, 2)):
            net = made(told, many).net
            total = sum(told.values())
            common = gcd(*told.values())
            for place, outlet in enumerate(net.outlets):
                out, balls = gained(net, "in", outlet)
                self.assertEqual(out * total, told[outlet] * balls)
                self.assertEqual(course(net, "in").total(balls)[place], out)
            self.assertEqual(round_of(net, "in").many * common % total, 0)
            self.assertEqual(judge_goal(net, {"x": 1}).balls["in"], course(net, "in").balls_for(0, 1))

    def test_homing_tells_where_the_net_stands(self):
        for net, dice in nets(40):
            standings = [samples.made_standing(net, dice) for _ in range(3)]
            inlets = homing(net, standings)
            if inlets is None:
                continue
            ends_ = {}
            for standing in standings:
                rows, now = [], standing
                for inlet in inlets:
                    row, now = plain.row_behind(net, inlet, now)
                    rows.append(row)
                self.assertEqual(ends_.setdefault(tuple(rows), now), now)
