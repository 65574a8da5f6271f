"""Courses ([10])."""

import unittest
from itertools import islice
from random import Random

from ballchutes.courses import Course, course
from ballchutes.errors import BadStanding, NoPart
from ballchutes.nets import Net
from ballchutes.settling import settle
from tests import plain, samples


def late():
    """A net whose front does not fit into its turn."""
    return Net({"a": ((("x", "x"), ("b",), ("x",)), (("x",), ("y",))), "b": ((("z",),), (("y", "y"),))},
               {"in": "a", "on": "b"}, ["z", "y", "x"])


class Courses(unittest.TestCase):
    """[10] The rows of balls that come one by one."""

    def test_the_example(self):
        told = course(samples.told(), "in")
        self.assertEqual([told.front, told.period, told.total(100), told.balls_for(1, 30)],
                         [[], [(1, 0), (0, 1), (1, 0)], (67, 33), 89])

    def test_one_by_one(self):
        for seed in range(80):
            net, dice = samples.made(seed), Random(seed)
            for name in [*net.knots, *net.inlets]:
                standing = samples.made_standing(net, dice)
                found = course(net, name, standing)
                now = standing
                for ball in range(2 * len(found.front) + 3 * len(found.period) + 30):
                    row, now = plain.row_behind(net, name, now)
                    self.assertEqual(found[ball], row)
                self.assertIs(found.shows(net, name, standing), True)

    def test_front_and_period_are_as_short_as_can_be(self):
        for seed in range(80):
            net = samples.made(seed)
            for name in net.inlets:
                found = course(net, name)
                front, period = found.front, found.period
                self.assertGreater(len(period), 0)
                self.assertTrue(not front or front[-1] != period[-1])
                for length in range(1, len(period)):
                    self.assertNotEqual(period, period[length:] + period[:length])

    def test_a_front_and_none(self):
        self.assertEqual(course(late(), "in"), Course([(2, 0, 0), (0, 0, 1), (1, 0, 0)], [(1, 0, 0), (0, 1, 0)]))
        self.assertEqual(course(late(), "on"), Course([(0, 0, 1)], [(0, 2, 0)]))
        self.assertEqual(course(late(), "b", {"a": 0, "b": 1}), Course([], [(0, 2, 0)]))
        self.assertEqual(course(late(), "a", {"b": 0, "a": 2}), Course([(1, 0, 0)], [(1, 0, 0), (0, 1, 0)]))
        self.assertEqual(course(late(), "a", {"b": 0, "a": 4}), Course([], [(0, 1, 0), (1, 0, 0)]))

    def test_a_front_that_fits_into_the_turn_is_none(self):
        net = Net({"a": ((("y",), ("x",), ("y",)), (("x",), ("y",), ("x",), ("y",)))}, {"in": "a"}, ["x", "y"])
        self.assertEqual(course(net, "in"), Course([], [(0, 1), (1, 0)]))
        self.assertEqual(course(net, "in", {"a": 6}), Course([], [(0, 1), (1, 0)]))
        self.assertEqual(course(net, "in", {"a": 1}), Course([], [(1, 0), (0, 1)]))
        net = Net({"a": ((("x",), ("y",), ("x",)), (("x",), ("x",), ("y",), ("x",)))}, {"in": "a"}, ["x", "y"])
        self.assertEqual(course(net, "in"), Course([], [(1, 0), (0, 1), (1, 0), (1, 0)]))

    def test_one_row_and_no_outlets(self):
        self.assertEqual(course(samples.single(), "in"), Course([], [(1,)]))
        net = Net({"a": (((), ()), ((), (), ()))}, {"in": "a"}, [])
        told = course(net, "in")
        self.assertEqual([told, told[9], told.total(10 ** 20)], [Course([], [()]), (), ()])

    def test_many_standings(self):
        knots = {"a": ((), (("b",),) + (("x",),) * 11), "b": ((), (("c",),) + (("x",),) * 11),
                 "c": ((), (("y",),) + (("x",),) * 11)}
        told = course(Net(knots, {"in": "a"}, ["x", "y"]), "in")
        self.assertEqual([told.front, len(told.period), told.total(1728), told.balls_for(1, 2), told.balls_for(1, 10 ** 9)],
                         [[], 1728, (1727, 1), 1729, 1728 * (10 ** 9 - 1) + 1])

    def test_many_balls_out_by_one(self):
        net = Net({knot: ((), ((samples.NAMES[at + 1] if at < 11 else "x",) * 4,))
                   for at, knot in enumerate(samples.NAMES)}, {"in": "a"}, ["x"])
        self.assertEqual(course(net, "in"), Course([], [(4 ** 12,)]))

    def test_outlets_are_ascending(self):
        net = Net({"a": ((), (("z", "y"), ("y",), ("y", "x")))}, {"in": "a"}, ["z", "x", "y"])
        self.assertEqual(course(net, "in").period, [(0, 1, 1), (0, 1, 0), (1, 1, 0)])

    def test_what_is_given_is_not_changed_and_what_is_returned_is_new(self):
        net, standing = late(), {"b": 0, "a": 1}
        told = course(net, "in", standing)
        self.assertEqual((net, list(standing.items())), (late(), [("b", 0), ("a", 1)]))
        told.front.clear()
        told.period.clear()
        self.assertEqual(course(net, "in", standing).period, [(1, 0, 0), (0, 1, 0)])

    def test_errors(self):
        for call in (course, Course([], [()]).shows):
            samples.refuse_nets(self, ((call, ("q", 5)), (call, ("in",))))
            for standing in samples.wrong_standings(samples.told()):
                with self.assertRaises(BadStanding):
                    call(samples.told(), "q", standing)
            for name in ("x", "q", "", None, 3, ["a"]):
                for standing in (None, {"a": 0, "b": 1}):
                    with self.assertRaises(NoPart) as caught:
                        call(samples.told(), name, standing)
                    self.assertEqual(caught.exception.name, name)


class Reading(unittest.TestCase):
    """[10] What a Course tells of its balls."""

    def setUp(self):
        self.told = Course([(3, 0, 0), (0, 1, 0)], [(0, 2, 0), (1, 0, 0), (0, 0, 0)])
        self.rows = [self.told.front[ball] if ball < 2 else self.told.period[(ball - 2) % 3] for ball in range(40)]

    def test_rows_near_and_far(self):
        self.assertEqual([self.told[ball] for ball in range(40)], self.rows)
        self.assertEqual([self.told[3 * 10 ** 50 + 2], self.told[3 * 10 ** 50 + 3], self.told[3 * 10 ** 50 + 4]],
                         [(0, 2, 0), (1, 0, 0), (0, 0, 0)])
        self.assertEqual(Course([], [(7,)])[0], (7,))

    def test_totals_near_and_far(self):
        for many in range(40):
            self.assertEqual(self.told.total(many), tuple(sum(row[place] for row in self.rows[:many])
                                                          for place in range(3)))
        self.assertEqual(self.told.total(0), (0, 0, 0))
        self.assertEqual(self.told.total(3 * 10 ** 50 + 3), (3 + 10 ** 50, 3 + 2 * 10 ** 50, 0))
        self.assertIsInstance(self.told.total(5), tuple)

    def test_balls_for(self):
        for outlet in range(2):
            for many in range(14):
                least = next(balls for balls in range(41) if self.told.total(balls)[outlet] >= many)
                self.assertEqual(self.told.balls_for(outlet, many), least)
        self.assertEqual([self.told.balls_for(outlet, 0) for outlet in range(3)], [0, 0, 0])
        self.assertEqual([self.told.balls_for(0, 1), self.told.balls_for(0, 3), self.told.balls_for(0, 4)], [1, 1, 4])
        self.assertEqual(self.told.balls_for(1, 1 + 2 * 10 ** 50), 2 + 3 * (10 ** 50 - 1) + 1)
        self.assertEqual(self.told.balls_for(1, 2 + 2 * 10 ** 50), 2 + 3 * 10 ** 50 + 1)

    def test_numbers_that_are_never_reached(self):
        self.assertIsNone(self.told.balls_for(2, 1))
        front = Course([(1,), (0,), (2,)], [(0,), (0,)])
        self.assertEqual([front.balls_for(0, many) for many in range(6)], [0, 1, 3, 3, None, None])
        self.assertIsNone(front.balls_for(0, 10 ** 40))

    def test_rows_from(self):
        self.assertEqual(list(islice(self.told.rows_from(), 30)), self.rows[:30])
        for start in range(9):
            self.assertEqual(list(islice(self.told.rows_from(start=start), 20)), self.rows[start:start + 20])
        self.assertEqual(list(islice(self.told.rows_from(start=3 * 10 ** 50 + 4), 3)), [(0, 0, 0), (0, 2, 0), (1, 0, 0)])
        with self.assertRaises(TypeError):
            self.told.rows_from(3)

    def test_totals_are_those_of_settling(self):
        net = samples.fronted()
        for name in ("in", "left", "b"):
            told = course(net, name, {"a": 1, "b": 0})
            for many in (0, 1, 2, 7, 50, 10 ** 30):
                out = settle(net, {name: many}, {"a": 1, "b": 0}).out
                self.assertEqual(told.total(many), tuple(out.values()))


class Showing(unittest.TestCase):
    """[10] What Course shows, and what it does not."""

    def test_one_thing_changed(self):
        net, told = late(), course(late(), "in")
        self.assertIs(told.shows(net, "in"), True)
        self.assertIs(told.shows(net, "a", net.start()), True)
        self.assertIs(told.shows(net, "on"), False)
        self.assertIs(told.shows(net, "in", {"a": 1, "b": 0}), False)
        self.assertIs(Course(tuple(told.front), tuple(told.period)).shows(net, "in"), True)
        for place in range(3):
            for wrong in ((9, 0, 0), (1, 0), (1, 0, 0, 0), ()):
                front = told.front[:place] + [wrong] + told.front[place + 1:]
                self.assertIs(Course(front, told.period).shows(net, "in"), False)
        for period in ([], told.period[:1], told.period[::-1], told.period * 2, [(1, 0, 0), (0, 2, 0)]):
            self.assertIs(Course(told.front, period).shows(net, "in"), False)

    def test_what_is_longer_than_can_be_is_not_shown(self):
        net, told = late(), course(late(), "in")
        self.assertIs(Course(told.front + told.period, told.period).shows(net, "in"), False)
        self.assertIs(Course(told.front + told.period[:1], told.period[1:] + told.period[:1]).shows(net, "in"), False)
        self.assertIs(Course([(1,)], [(1,)]).shows(samples.single(), "in"), False)
        self.assertIs(Course([], [(1,), (1,)]).shows(samples.single(), "in"), False)
        self.assertIs(Course([], [(1,)]).shows(samples.single(), "in"), True)

    def test_copies_and_equality(self):
        front, period = [(1,)], [(2,), (3,)]
        told = Course(front, period)
        front.append((5,))
        period.append((5,))
        self.assertEqual((told.front, told.period), ([(1,)], [(2,), (3,)]))
        self.assertEqual(told, Course(((1,),), ((2,), (3,))))
        self.assertEqual(Course(((1,),), ((2,),)).front, [(1,)])
        for other in (Course([], [(2,), (3,)]), Course([(1,)], [(2,)]), Course([(1,)], [(2,), (3,), (2,), (3,)]), None,
                      ([(1,)], [(2,), (3,)])):
            self.assertNotEqual(told, other)
        told.front = []
        self.assertEqual([told[0], told.total(1)], [(2,), (2,)])

    def test_a_course_cannot_be_walked(self):
        with self.assertRaises(TypeError):
            list(Course([], [(1,)]))
