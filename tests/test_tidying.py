"""Knots with tidy rows ([25])."""

import unittest
from random import Random

from ballchutes.alikes import judge_alike
from ballchutes.courses import course
from ballchutes.ending import ends
from ballchutes.errors import BadNet, BadStanding
from ballchutes.joining import begun_at
from ballchutes.nets import Net
from ballchutes.tidying import alike_places, is_tidy, tidied, tidied_standing
from tests import plain, samples


def row(front, turn):
    """A net of one knot with these drops of one target each."""
    return Net({"a": (tuple((sign,) for sign in front), tuple((sign,) for sign in turn))}, {"i": "a"}, ["x", "y", "z"])


def rows_of(net):
    """The drops of the one knot of a net, as texts."""
    return tuple("".join(sign for drop in told for sign in drop) for told in net.knots["a"])


def untidy(seed):
    """A net made by a seed, or one more often the rows of some knots of which are told longer than they need be."""
    dice = Random(seed)
    net = samples.made(seed, dice.random() < 0.6)
    if dice.random() < 0.3:
        return net
    knots = {}
    for knot, (front, turn) in net.knots.items():
        if len(turn) * 2 <= 12 and dice.random() < 0.6:
            turn = turn * dice.randint(2, 12 // len(turn))
        for _ in range(dice.randint(0, 5)):
            if len(front) < 12:
                front = front + (turn[0],)
                turn = turn[1:] + turn[:1]
        knots[knot] = (front, turn)
    return Net(knots, net.inlets, net.outlets)


class Tidying(unittest.TestCase):
    """[25] Rows as short as can be."""

    def test_the_example(self):
        net = Net({"a": ((("x",), ("y",)), (("x",), ("y",), ("x",), ("y",)))}, {"i": "a"}, ["x", "y"])
        self.assertEqual([is_tidy(net), tidied(net).knots, tidied_standing(net, {"a": 5}), alike_places(net)],
                         [False, {"a": ((), (("x",), ("y",)))}, {"a": 1}, {"a": [[0, 2, 4], [1, 3, 5]]}])

    def test_turns_that_are_shorter_ones_done_again(self):
        for turn, short in (("x", "x"), ("xx", "x"), ("xyxy", "xy"), ("xyxyxy", "xy"), ("xyxyx", "xyxyx"), ("xxyxxy", "xxy"),
                            ("x" * 12, "x"), ("xyz" * 4, "xyz"), ("xyxxyx", "xyx"), ("xyyxxy", "xyyxxy"), ("x" * 11 + "y",) * 2):
            self.assertEqual(rows_of(tidied(row("", turn))), ("", short))
            self.assertIs(is_tidy(row("", turn)), turn == short)

    def test_fronts_that_end_as_the_turn_does(self):
        for front, turn, shorter, begun in (("x", "yx", "", "xy"), ("x", "xy", "x", "xy"), ("zx", "yx", "z", "xy"),
                                            ("yx", "yx", "", "yx"), ("xyx", "yx", "", "xy"), ("zyx", "zyx", "", "zyx"),
                                            ("yzyx", "zyx", "y", "zyx"), ("xzyxzyx", "zyx", "", "xzy"),
                                            ("z", "xy", "z", "xy"), ("xxxx", "x", "", "x"), ("yxxx", "xx", "y", "x"),
                                            ("yx", "xyxy", "yx", "xy"), ("zyxyx", "yxyx", "z", "yx"), ("y" * 12, "y" * 12, "", "y")):
            found = tidied(row(front, turn))
            self.assertEqual(rows_of(found), (shorter, begun), (front, turn))
            self.assertIs(is_tidy(row(front, turn)), (front, turn) == (shorter, begun))
            self.assertIs(is_tidy(found), True)

    def test_drops_with_their_targets_in_another_order_are_not_the_same(self):
        net = Net({"a": ((), (("x", "y"), ("y", "x")))}, {"i": "a"}, ["x", "y"])
        self.assertEqual((is_tidy(net), tidied(net), alike_places(net)), (True, net, {"a": [[0], [1]]}))
        net = Net({"a": ((("x", "y"),), (("y", "x"),))}, {"i": "a"}, ["x", "y"])
        self.assertEqual((is_tidy(net), tidied(net), tidied_standing(net, {"a": 1})), (True, net, {"a": 1}))
        net = Net({"a": ((("x", "y"), ("x", "y")), (("x", "y"),))}, {"i": "a"}, ["x", "y"])
        self.assertEqual((is_tidy(net), tidied(net).knots), (False, {"a": ((), (("x", "y"),))}))

    def test_empty_drops(self):
        net = Net({"a": (((), ("x",)), ((), ("x",), (), ("x",)))}, {"i": "a"}, ["x"])
        self.assertEqual((tidied(net).knots, alike_places(net)), ({"a": ((), ((), ("x",)))}, {"a": [[0, 2, 4], [1, 3, 5]]}))
        self.assertEqual(tidied(Net({"a": (((),), ((),))}, {"i": "a"}, [])).knots, {"a": ((), ((),))})

    def test_each_knot_by_itself(self):
        net = Net({"a": ((), (("b",), ("b",))), "b": ((("x",),), (("x",), ("y",)))}, {"i": "a"}, ["x", "y"])
        self.assertEqual(tidied(net).knots, {"a": ((), (("b",),)), "b": ((("x",),), (("x",), ("y",)))})
        self.assertIs(is_tidy(net), False)
        self.assertEqual((tidied(net).inlets, tidied(net).outlets), (net.inlets, net.outlets))

    def test_one_by_one(self):
        kinds = {True: 0, False: 0}
        for seed in range(200):
            net = untidy(seed)
            found = tidied(net)
            self.assertEqual((list(found.knots), found.inlets, found.outlets), (list(net.knots), net.inlets, net.outlets))
            tidy = True
            for knot, (front, turn) in net.knots.items():
                self.assertEqual(plain.drops_from(found, knot, 0, 60), plain.drops_from(net, knot, 0, 60))
                short, turned = found.knots[knot]
                self.assertTrue(not short or short[-1] != turned[-1])
                self.assertFalse(any(turned == turned[:many] * (len(turned) // many) for many in range(1, len(turned))))
                done_again = any(turn == turn[:many] * (len(turn) // many) for many in range(1, len(turn)))
                tidy = tidy and not done_again and (not front or front[-1] != turn[-1])
            self.assertIs(is_tidy(net), tidy)
            self.assertEqual((is_tidy(found), tidied(found)), (True, found))
            kinds[tidy] += 1
        self.assertTrue(min(kinds.values()) > 15, kinds)


class Places(unittest.TestCase):
    """[25] Places from which a knot goes on with the same drops."""

    def test_a_turn_that_begins_elsewhere(self):
        net = row("zx", "yx")
        self.assertEqual(tidied(net), row("z", "xy"))
        self.assertEqual([tidied_standing(net, {"a": at})["a"] for at in range(4)], [0, 1, 2, 1])
        self.assertEqual(alike_places(net), {"a": [[0], [1, 3], [2]]})

    def test_places_in_a_front_as_in_the_turn(self):
        net = row("xyx", "yxyx")
        self.assertEqual(alike_places(net), {"a": [[0, 2, 4, 6], [1, 3, 5]]})
        self.assertEqual([tidied_standing(net, {"a": at})["a"] for at in range(7)], [0, 1, 0, 1, 0, 1, 0])

    def test_all_places_differ(self):
        self.assertEqual(alike_places(row("x", "xy")), {"a": [[0], [1], [2]]})
        self.assertEqual(alike_places(samples.told()), {"a": [[0], [1]], "b": [[0], [1]]})

    def test_a_dict_in_any_order(self):
        net = Net({"a": ((), (("b",), ("b",))), "b": ((), (("x",), ("x",)))}, {"i": "a"}, ["x"])
        self.assertEqual(list(tidied_standing(net, {"b": 1, "a": 1}).items()), [("a", 0), ("b", 0)])
        self.assertEqual(list(alike_places(net)), ["a", "b"])

    def test_one_by_one(self):
        for seed in range(120):
            net = untidy(seed)
            found, alike, dice = tidied(net), alike_places(net), Random(seed)
            standing = {knot: dice.randrange(len(front) + len(turn)) for knot, (front, turn) in net.knots.items()}
            tidy = tidied_standing(net, standing)
            for knot, (front, turn) in net.knots.items():
                drops = [plain.drops_from(net, knot, at, 60) for at in range(len(front) + len(turn))]
                expected = []
                for at, told in enumerate(drops):
                    if told not in drops[:at]:
                        expected.append([place for place, other in enumerate(drops) if other == told])
                self.assertEqual(alike[knot], expected)
                short, turned = found.knots[knot]
                places = [at for at in range(len(short) + len(turned))
                          if plain.drops_from(found, knot, at, 60) == drops[standing[knot]]]
                self.assertEqual(tidy[knot], places[0])

    def test_tidied_nets_are_alike(self):
        for seed in range(60):
            net = untidy(seed)
            self.assertIs(ends(tidied(net)), ends(net))
            if ends(net):
                self.assertIs(bool(judge_alike(net, tidied(net))), True)
                dice = Random(seed)
                standing = {knot: dice.randrange(len(front) + len(turn)) for knot, (front, turn) in net.knots.items()}
                self.assertIs(bool(judge_alike(begun_at(net, standing), begun_at(tidied(net), tidied_standing(net, standing)))),
                              True)
                for inlet in net.inlets:
                    self.assertEqual(course(net, inlet), course(tidied(net), inlet))


class Wrong(unittest.TestCase):
    """[1], [25] Errors; nets that do not end are answered."""

    def test_nets(self):
        for net in samples.NO_NETS:
            for call in (is_tidy, tidied, alike_places, lambda net: tidied_standing(net, {}), lambda net: tidied_standing(net, 3)):
                with self.assertRaises(BadNet) as caught:
                    call(net)
                self.assertIsNone(caught.exception.name)

    def test_standings(self):
        for net in (samples.told(), samples.endless()["growing"]):
            for wrong in samples.wrong_standings(net):
                with self.assertRaises(BadStanding):
                    tidied_standing(net, wrong)

    def test_nets_that_do_not_end(self):
        net = samples.endless()["itself"]
        self.assertEqual((is_tidy(net), tidied(net), alike_places(net), tidied_standing(net, {"a": 0})),
                         (True, net, {"a": [[0]]}, {"a": 0}))
        net = samples.endless()["behind a front"]
        self.assertEqual(tidied(net).knots["a"], net.knots["a"])
        net = samples.endless()["just as many"]
        self.assertEqual(alike_places(net)["a"], [[at] for at in range(12)])
        twice = Net({"a": ((("a",),), (("a",), ("a",)))}, {"i": "a"}, [])
        self.assertEqual((tidied(twice).knots, tidied_standing(twice, {"a": 2})), ({"a": ((), (("a",),))}, {"a": 0}))

    def test_nothing_is_changed(self):
        net, standing = row("zx", "yx"), {"a": 3}
        alike_places(net)["a"].clear()
        tidied_standing(net, standing)["a"] = 7
        self.assertEqual((net, standing), (row("zx", "yx"), {"a": 3}))
        self.assertEqual(alike_places(net), {"a": [[0], [1, 3], [2]]})
