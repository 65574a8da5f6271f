"""The examples of the interface, with the answers that stand there."""

import doctest
import unittest

EXAMPLES = {
    "nets": r'''
>>> from ballchutes.nets import Net
>>> net = Net({"a": ((), (("b",), ("x",))), "b": ((), (("a",), ("y",)))}, {"in": "a"}, ["y", "x"])
>>> [net.outlets, net.start(), net.dropped("a", 1, 4), net.place_behind("a", 1, 4)]
[('x', 'y'), {'a': 0, 'b': 0}, {'x': 2, 'b': 2}, 1]
''',
    "settling": r'''
>>> from ballchutes.nets import Net
>>> from ballchutes.settling import knots_in_turn, settle
>>> net = Net({"a": ((), (("b",), ("x",))), "b": ((), (("a",), ("y",)))}, {"in": "a"}, ["x", "y"])
>>> found = settle(net, {"in": 10})
>>> [found.out, found.taken, found.standing, list(knots_in_turn(net, {"in": 1}))]
[{'x': 7, 'y': 3}, {'a': 14, 'b': 7}, {'a': 0, 'b': 1}, ['a', 'b', 'a']]
''',
    "ending": r'''
>>> from ballchutes.ending import judge_ends
>>> from ballchutes.nets import Net
>>> [bool(judge_ends(Net({"a": ((), (("a", "a"), ("x",), ()))}, {"in": "a"}, ["x"]))), bool(judge_ends(Net({"a": ((), (("a", "a"), ()))}, {"in": "a"}, [])))]
[True, False]
''',
    "rounds": r'''
>>> from ballchutes.nets import Net
>>> from ballchutes.rounds import ahead, many_back, round_of, same_back
>>> net = Net({"a": ((), (("b",), ("x",))), "b": ((), (("a",), ("y",)))}, {"in": "a"}, ["x", "y"])
>>> [many_back(net), round_of(net, "in").many, round_of(net, "in").turns, ahead(net, {"a": 0, "b": 0}, "in"), same_back(net, {"in": 2}, {"b": 1})]
[3, 3, {'a': 2, 'b': 1}, {'a': 1, 'b': 0}, True]
''',
    "shares": r'''
>>> from ballchutes.lags import levels, spread
>>> from ballchutes.nets import Net
>>> from ballchutes.shares import gained, share_of
>>> net = Net({"a": ((), (("b",), ("x",))), "b": ((), (("a",), ("y",)))}, {"in": "a"}, ["x", "y"])
>>> [share_of(net, "in", "x"), gained(net, "in", "x"), levels(net, "x").heights, spread(net, "x")]
[(2, 3), (2, 3), {'a': [(0, 1), (1, 3)], 'b': [(0, 1), (-1, 3)]}, (2, 3)]
''',
    "courses": r'''
>>> from ballchutes.courses import course
>>> from ballchutes.nets import Net
>>> net = Net({"a": ((), (("b",), ("x",))), "b": ((), (("a",), ("y",)))}, {"in": "a"}, ["x", "y"])
>>> told = course(net, "in")
>>> [told.front, told.period, told.total(100), told.balls_for(1, 30)]
[[], [(1, 0), (0, 1), (1, 0)], (67, 33), 89]
''',
    "nettexts": r'''
>>> from ballchutes.nettexts import read_net, write_net
>>> told = read_net("piece third(a; o, p)\ninlet a: w\nwheel w: v o\nwheel v: w p # back\nend\ninlet in: q.a\nuse q = third(o = x, p = y)\noutlet x\noutlet y")
>>> [told.knots["q.v"], write_net(told)]
[((), (('q.w',), ('y',))), 'inlet in: qw\nknot qv: (qw) (y)\nknot qw: (qv) (x)\noutlet x\noutlet y\n']
''',
    "freeing": r'''
>>> from ballchutes.freeing import free_sets, judge_free
>>> from ballchutes.nets import Net
>>> net = Net({"a": ((), (("b",), ("c",))), "b": ((), (("x",),)), "c": ((), (("x",),))}, {"in": "a"}, ["x", "y"])
>>> [free_sets(net), bool(judge_free(net, ["a"])), bool(judge_free(Net({"a": ((), (("x",), ("y",)))}, {"in": "a"}, ["x", "y"]), ["a"]))]
[[('a', 'b', 'c')], True, False]
''',
    "evenness": r'''
>>> from ballchutes.evenness import judge_even
>>> from ballchutes.nets import Net
>>> net = Net({"a": ((), (("x",), ("y",), ("y",), ("x",)))}, {"in": "a"}, ["x", "y"])
>>> found = judge_even(net, "x", "y")
>>> [found.least, found.most, found.low, judge_even(Net({"a": ((), (("x",), ("y",), ("x",)))}, {"in": "a"}, ["x", "y"]), "y", "x").more]
[-1, 1, {'in': 3}, -1]
''',
    "goals": r'''
>>> from ballchutes.goals import judge_goal, just_goal
>>> from ballchutes.nets import Net
>>> net = Net({'k': ((), (('a',), ('b',), ('b',)))}, {'in': 'k'}, ['a', 'b'])
>>> [judge_goal(net, {'a': 2}).balls, judge_goal(net, {'a': 2}).lacks, just_goal(net, {'a': 1, 'b': 2}, 9), just_goal(net, {'a': 2}, 9)]
[{'in': 4}, {(3,): 'a'}, {'in': 3}, None]
>>> late = Net({'k': ((('a',), ('a',)), ((),))}, {'in': 'k'}, ['a'])
>>> [bool(judge_goal(late, {'a': 3})), judge_goal(late, {'a': 3}).outlet, judge_goal(late, {'a': 3}).most]
[False, 'a', 2]
''',
    "telling": r'''
>>> from ballchutes.nets import Net
>>> from ballchutes.telling import homing, telling
>>> net = Net({'k': ((), (('a',), ('b',), ('b',)))}, {'in': 'k'}, ['a', 'b'])
>>> standings = [{'k': 0}, {'k': 1}, {'k': 2}]
>>> found = telling(net, standings)
>>> [found.balls, found.pairs, found.closed, homing(net, standings), telling(net, [{'k': 1}, {'k': 1}]).pairs]
[['in', 'in'], [], [], ['in', 'in'], [(0, 1)]]
''',
    "rooms": r'''
>>> from ballchutes.nets import Net
>>> from ballchutes.rooms import judge_room, least_room
>>> net = Net({'k': ((), (('m', 'm'),)), 'm': ((), (('out',), ('k',), ('out',)))}, {'in': 'k'}, ['out'])
>>> [least_room(net, {'in': 2}), bool(judge_room(net, {'in': 2}, 1)), len(judge_room(net, {'in': 2}, 2).steps)]
[2, False, 17]
''',
    "changing": r'''
>>> from ballchutes.changing import begun_like, changed, judge_change
>>> from ballchutes.nets import Net
>>> net = Net({'k': ((), (('a',), ('b',)))}, {'in': 'k'}, ['a', 'b'])
>>> [judge_change(net, changed(net, ('k', 0, 0, 'b'))).change, begun_like(net, Net({'k': ((), (('b',), ('a',)))}, {'in': 'k'}, ['a', 'b']))]
[('k', 0, 0, 'b'), {'k': 1}]
''',
    "groups": r'''
>>> from ballchutes.groups import factors, many_times, standing_with, sum_of
>>> from ballchutes.nets import Net
>>> net = Net({"a": ((), (("b",), ("x",))), "b": ((), (("a",), ("y",)))}, {"in": "a"}, ["x", "y"])
>>> [factors(net), sum_of(net, {"a": 1, "b": 1}), standing_with(net, {"a": 4}), many_times(net, {"a": 1, "b": 0}, 10 ** 30)]
[[3], {'a': 0, 'b': 0}, {'a': 0, 'b': 1}, {'a': 1, 'b': 0}]
''',
    "reaching": r'''
>>> from ballchutes.nets import Net
>>> from ballchutes.reaching import fewest_to, judge_reach, reaching_sets
>>> net = Net({"a": ((), (("x",), ("y",))), "b": ((), (("x",), ("y",), ("y",)))}, {"i": "a", "j": "b"}, ["x", "y"])
>>> one, other = {"a": 0, "b": 0}, {"a": 0, "b": 2}
>>> [judge_reach(net, one, other, ["j"]).balls["j"] % 3, bool(judge_reach(net, one, other, ["i"])), fewest_to(net, one, other, "j"), reaching_sets(net)]
[2, False, 2, [('a', 'b')]]
''',
    "tidying": r'''
>>> from ballchutes.nets import Net
>>> from ballchutes.tidying import alike_places, is_tidy, tidied, tidied_standing
>>> net = Net({"a": ((("x",), ("y",)), (("x",), ("y",), ("x",), ("y",)))}, {"i": "a"}, ["x", "y"])
>>> [is_tidy(net), tidied(net).knots, tidied_standing(net, {"a": 5}), alike_places(net)]
[False, {'a': ((), (('x',), ('y',)))}, {'a': 1}, {'a': [[0, 2, 4], [1, 3, 5]]}]
''',
    "trailing": r'''
>>> from ballchutes.nets import Net
>>> from ballchutes.trailing import judge_behind, least_behind
>>> net = Net({"a": ((), (("x",), ("y",), ("y",), ("x",)))}, {"i": "a"}, ["x", "y"])
>>> [judge_behind(net, "x", "y", 0).inlets, bool(judge_behind(net, "x", "y", 1)), least_behind(net, "x", "y"), least_behind(net, "y", "x")]
[['i', 'i', 'i'], True, 1, 1]
''',
}


class Examples(unittest.TestCase):
    def test_each_one(self):
        for file, told in EXAMPLES.items():
            held, answers = {}, 0
            for example in doctest.DocTestParser().get_examples(told, file):
                if example.want:
                    # Dicts are equal in any order, unless something else is told.
                    self.assertEqual(eval(example.source, held), eval(example.want), (file, example.source))
                    answers += 1
                else:
                    exec(example.source, held)
            self.assertGreater(answers, 0, file)
