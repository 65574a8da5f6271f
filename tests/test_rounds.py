"""What comes back ([6]), and rounds ([7])."""

import unittest
from random import Random

from ballchutes.errors import BadStanding, NoPart, NotBack
from ballchutes.nets import Net
from ballchutes.rounds import Round, ahead, comes_back, first_back, many_back, round_of, same_back
from ballchutes.settling import settle
from tests import plain, samples

SEEDS = range(60)


class Back(unittest.TestCase):
    """[6] Standings that come back."""

    def test_the_example(self):
        net = samples.told()
        self.assertEqual([many_back(net), round_of(net, "in").many, round_of(net, "in").turns,
                          ahead(net, {"a": 0, "b": 0}, "in"), same_back(net, {"in": 2}, {"b": 1})],
                         [3, 3, {"a": 2, "b": 1}, {"a": 1, "b": 0}, True])
        self.assertEqual([standing for standing in plain.all_standings(net) if comes_back(net, standing)],
                         [{"a": 0, "b": 0}, {"a": 0, "b": 1}, {"a": 1, "b": 0}])

    def test_one_by_one(self):
        for seed in SEEDS:
            net = samples.made(seed)
            back = plain.standings_back(net)
            self.assertEqual(many_back(net), len(back))
            for standing in plain.all_standings(net):
                self.assertIs(comes_back(net, standing), standing in back)

    def test_standings_within_a_front_do_not_come_back(self):
        net = samples.fronted()
        self.assertEqual([comes_back(net, {"a": place, "b": 2}) for place in range(5)],
                         [False, False, True, False, True])
        self.assertIs(comes_back(net, {"a": 4, "b": 0}), False)
        front = Net({"a": ((("x",),) * 12, (("x",),))}, {"in": "a"}, ["x"])
        self.assertEqual([comes_back(front, {"a": place}) for place in range(13)], [False] * 12 + [True])
        self.assertEqual(first_back(front, {"a": 0}), {"a": 12})
        self.assertEqual(first_back(front, {"a": 7}), {"a": 12})

    def test_one_knot_and_one_standing(self):
        self.assertEqual(many_back(samples.single()), 1)
        self.assertIs(comes_back(samples.single(), {"a": 0}), True)
        self.assertEqual(ahead(samples.single(), {"a": 0}, "in"), {"a": 0})
        self.assertIs(same_back(samples.single(), {"in": 5}, {}), True)
        net = Net({"a": ((), (("a", "a"), ("x",), ()))}, {"in": "a"}, ["x"])
        self.assertEqual([many_back(net), [comes_back(net, {"a": place}) for place in range(3)]],
                         [1, [plain.comes_back(net, {"a": place}) for place in range(3)]])
        self.assertEqual(sum(comes_back(net, {"a": place}) for place in range(3)), 1)

    def test_far_more_standings_than_can_be_counted(self):
        knots = {name: ((), ((samples.NAMES[at + 1] if at < 11 else "x",),) + (("x",),) * 11)
                 for at, name in enumerate(samples.NAMES)}
        net = Net(knots, {"in": "a"}, ["x"])
        self.assertEqual(many_back(net), 12 ** 12)
        self.assertEqual(round_of(net, "in").many, 12 ** 12)
        self.assertEqual(round_of(net, "k").many, 144)
        standing = {name: 5 for name in samples.NAMES}
        self.assertIs(comes_back(net, standing), True)
        self.assertEqual(settle(net, {"in": 1}, ahead(net, standing, "in")).standing, standing)
        self.assertIs(same_back(net, {"in": 12 ** 12 * 10 ** 20 + 12}, {"b": 1}), True)

    def test_many_standings_that_do_not_come_back(self):
        net = samples.walk()
        self.assertEqual(many_back(net), 13)
        self.assertIs(comes_back(net, {name: 1 for name in samples.NAMES}), True)
        standing = {name: at % 2 for at, name in enumerate(samples.NAMES)}
        self.assertIs(comes_back(net, standing), False)
        self.assertIs(comes_back(net, first_back(net, standing)), True)


class FirstBack(unittest.TestCase):
    """[6] The first standing that comes back behind whole rounds."""

    def test_one_by_one(self):
        for seed in SEEDS:
            net, dice = samples.made(seed), Random(seed)
            back = plain.standings_back(net)
            many = plain.even_many(net, back)
            for _ in range(5):
                standing = samples.made_standing(net, dice)
                now = standing
                while now not in back:
                    now = plain.behind(net, {knot: many for knot in net.knots}, now)
                self.assertEqual(first_back(net, standing), now)

    def test_some_rounds_are_needed(self):
        net = Net({"a": ((("x",),) * 5 + (("b",),) * 6, (("x",),)), "b": ((("a",),) * 3, (("y",), ("x",)))},
                  {"in": "a", "on": "b"}, ["x", "y"])
        back = plain.standings_back(net)
        self.assertEqual((len(back), plain.even_many(net, back)), (2, 2))
        now, times = {"a": 0, "b": 0}, 0
        while now not in back:
            now, times = plain.behind(net, {"a": 2, "b": 2}, now), times + 1
        self.assertGreater(times, 2)
        self.assertEqual(first_back(net, net.start()), now)

    def test_one_that_comes_back_is_returned_as_a_new_ascending_dict(self):
        net, standing = samples.told(), {"b": 0, "a": 1}
        found = first_back(net, standing)
        self.assertEqual(list(found.items()), [("a", 1), ("b", 0)])
        found["a"] = 0
        self.assertEqual(standing, {"b": 0, "a": 1})
        self.assertEqual(list(first_back(samples.gates(), {"c": 0, "b": 0, "a": 0})), ["a", "b", "c"])


class Ahead(unittest.TestCase):
    """[6] The standing ahead of one that comes back."""

    def test_one_by_one(self):
        for seed in SEEDS:
            net = samples.made(seed)
            back = plain.standings_back(net)
            for name in [*net.knots, *net.inlets]:
                for standing in back[:6]:
                    found = ahead(net, standing, name)
                    self.assertIn(found, back)
                    self.assertEqual(plain.behind(net, {name: 1}, found), standing)

    def test_what_is_returned_is_new_and_ascending(self):
        net, standing = samples.told(), {"b": 0, "a": 0}
        self.assertEqual(list(ahead(net, standing, "b")), ["a", "b"])
        one = {"a": 0}
        ahead(samples.single(), one, "a")["a"] = 7
        self.assertEqual((one, list(standing)), ({"a": 0}, ["b", "a"]))

    def test_errors(self):
        net = samples.told()
        for name in ("x", "q", "", None, 3, ["a"], ("a",)):
            with self.assertRaises(NoPart) as caught:
                ahead(net, 7, name)
            self.assertEqual(caught.exception.name, name)
        for standing in samples.wrong_standings(net) + [None]:
            with self.assertRaises(BadStanding):
                ahead(net, standing, "in")
        for name in ("in", "a", "b"):
            with self.assertRaises(NotBack):
                ahead(net, {"a": 1, "b": 1}, name)
        with self.assertRaises(NotBack):
            ahead(samples.fronted(), {"a": 0, "b": 2}, "left")


class SameBack(unittest.TestCase):
    """[6] Balls that lead all that comes back to the same."""

    def test_one_by_one(self):
        for seed in SEEDS:
            net, dice = samples.made(seed), Random(seed)
            back = plain.standings_back(net)
            names = [*net.knots, *net.inlets]
            for _ in range(6):
                one, other = ({name: dice.randint(0, 4) for name in names if dice.random() < 0.5} for _ in range(2))
                same = all(plain.behind(net, one, standing) == plain.behind(net, other, standing) for standing in back)
                self.assertIs(same_back(net, one, other), same)

    def test_inlets_and_knots_far_numbers_and_none(self):
        net = samples.told()
        self.assertIs(same_back(net, {}, {}), True)
        self.assertIs(same_back(net, {"in": 1}, {"a": 1, "b": 0}), True)
        self.assertIs(same_back(net, {"in": 1, "a": 1}, {"a": 2}), True)
        self.assertIs(same_back(net, {"in": 1, "a": 1}, {"a": 1}), False)
        self.assertIs(same_back(net, {"in": 3 * 10 ** 40}, {}), True)
        self.assertIs(same_back(net, {}, {"b": 3 * 10 ** 40 + 1}), False)
        self.assertIs(same_back(net, {"in": 10 ** 40}, {"a": 1}), True)
        self.assertIs(same_back(net, {"in": 10 ** 40}, {"b": 1}), False)

    def test_errors(self):
        net = samples.told()
        for one, other, name in (({"in": 1, "x": 1, "q": 1}, {"y": 1}, "x"), ({"in": 1}, {"b": 0, "q": 0, "x": 1}, "q"),
                                 ({}, {"": 1}, ""), ({None: 1}, {}, None)):
            given = repr((one, other))
            with self.assertRaises(NoPart) as caught:
                same_back(net, one, other)
            self.assertEqual((caught.exception.name, repr((one, other))), (name, given))


class Rounds(unittest.TestCase):
    """[7] Whole rounds."""

    def test_one_by_one(self):
        for seed in SEEDS:
            net = samples.made(seed)
            back = plain.standings_back(net)
            for name in [*net.knots, *net.inlets]:
                found = round_of(net, name)
                self.assertEqual({plain.times_back(net, name, standing) for standing in back}, {found.many})
                taken = plain.rest(net, {name: found.many}, back[-1])[0]
                self.assertEqual(taken, {knot: len(net.knots[knot][1]) * found.turns[knot] for knot in net.knots})
                self.assertEqual(list(found.turns), list(net.knots))
                self.assertIs(found.shows(net, name), True)

    def test_knots_that_do_no_turns(self):
        net = Net({"a": ((), (("b",), ("x",), ("x",))), "b": ((), (("x",), ("x",)))}, {"in": "a"}, ["x"])
        self.assertEqual(round_of(net, "b"), Round(2, {"a": 0, "b": 1}))
        self.assertEqual(round_of(net, "in"), Round(6, {"a": 2, "b": 1}))
        self.assertEqual(round_of(samples.single(), "a"), Round(1, {"a": 1}))

    def test_one_thing_changed_is_not_shown(self):
        net = samples.told()
        self.assertIs(Round(3, {"b": 1, "a": 2}).shows(net, "a"), True)
        self.assertIs(Round(3, {"a": 2, "b": 1}).shows(net, "b"), False)
        self.assertIs(Round(3, {"a": 1, "b": 2}).shows(net, "b"), True)
        for many, turns in ((6, {"a": 4, "b": 2}), (0, {"a": 0, "b": 0}), (-3, {"a": -2, "b": -1}), (3, {"a": 2}),
                            (3, {"a": 2, "b": 1, "c": 0}), (3, {}), (3, {"a": 2, "b": 2}), (3, {"a": 1, "b": 1}),
                            (2, {"a": 2, "b": 1}), (4, {"a": 2, "b": 1}), (3, {"a": 2, "in": 1})):
            self.assertIs(Round(many, turns).shows(net, "in"), False)

    def test_copies_and_equality(self):
        turns = {"a": 2, "b": 1}
        found = Round(3, turns)
        turns["a"] = 3
        self.assertEqual((found.many, found.turns), (3, {"a": 2, "b": 1}))
        self.assertEqual(found, Round(3, {"b": 1, "a": 2}))
        for other in (Round(4, {"a": 2, "b": 1}), Round(3, {"a": 2}), None, (3, {"a": 2, "b": 1})):
            self.assertNotEqual(found, other)
        found.many = 6
        self.assertIs(found.shows(samples.told(), "in"), False)
        round_of(samples.told(), "in").turns["a"] = 9
        self.assertEqual(round_of(samples.told(), "in").turns, {"a": 2, "b": 1})

    def test_errors(self):
        for name in ("x", "q", "", None, 3, ["a"]):
            for call in (round_of, Round(1, {}).shows):
                with self.assertRaises(NoPart) as caught:
                    call(samples.told(), name)
                self.assertEqual(caught.exception.name, name)


class Wrong(unittest.TestCase):
    """[1], [6], [7] Errors of all, those documented first ahead."""

    def test_no_nets_and_nets_that_do_not_end(self):
        for standing in (5, {"a": 0}, {"a": 0, "b": 0}):
            samples.refuse_nets(self, ((comes_back, (standing,)), (first_back, (standing,)), (many_back, ()),
                                       (ahead, (standing, "q")), (ahead, (standing, "a"))))
        samples.refuse_nets(self, ((same_back, ({"q": 1}, {"q": 1})), (same_back, ({}, {})), (round_of, ("q",)),
                                   (round_of, ("a",)), (Round(1, {}).shows, ("q",))))

    def test_wrong_standings(self):
        net = samples.told()
        for standing in samples.wrong_standings(net) + [None]:
            for call in (comes_back, first_back):
                with self.assertRaises(BadStanding):
                    call(net, standing)

    def test_what_is_given_is_not_changed(self):
        net, standing = samples.fronted(), {"b": 0, "a": 1}
        comes_back(net, standing)
        first_back(net, standing)
        self.assertEqual(list(standing.items()), [("b", 0), ("a", 1)])
        back, balls = first_back(net, standing), {"left": 2}
        kept = dict(back)
        ahead(net, back, "in")
        same_back(net, balls, balls)
        self.assertEqual((back, balls, net), (kept, {"left": 2}, samples.fronted()))
