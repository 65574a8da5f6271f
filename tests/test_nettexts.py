"""Texts that tell nets ([15])."""

import unittest
from random import Random

from ballchutes.errors import BadNet, BadPiece, BadText
from ballchutes.joining import renamed
from ballchutes.nets import Net
from ballchutes.nettexts import read_net, write_net
from tests import samples

KEPT = "inlet outlet knot wheel gate copies piece end use".split()
EXAMPLE = ("piece third(a; o, p)\ninlet a: w\nwheel w: v o\nwheel v: w p # back\nend\ninlet in: q.a\n"
           "use q = third(o = x, p = y)\noutlet x\noutlet y")
# A net that is right, so that lines can be put ahead of it or behind it.
RIGHT = "inlet in: a\nknot a: (x)\noutlet x"


def lines(*told):
    return "\n".join(told)


class Reading(unittest.TestCase):
    """[15] Texts that are read."""

    def test_the_example(self):
        told = read_net(EXAMPLE)
        self.assertEqual([told.knots["q.v"], write_net(told)],
                         [((), (("q.w",), ("y",))),
                          "inlet in: qw\nknot qv: (qw) (y)\nknot qw: (qv) (x)\noutlet x\noutlet y\n"])
        self.assertEqual(told, Net({"q.w": ((), (("q.v",), ("x",))), "q.v": ((), (("q.w",), ("y",)))}, {"in": "q.w"},
                                   ["x", "y"]))

    def test_knots(self):
        for rows, told in (("(x)", ((), (("x",),))), ("(x y) () (x)", ((), (("x", "y"), (), ("x",)))),
                           ("(y) / (x)", ((("y",),), (("x",),))), ("/ (x)", ((), (("x",),))), ("() / ()", (((),), ((),))),
                           ("(x x x x)/(a)()(y y)", ((("x",) * 4,), (("a",), (), ("y", "y")))),
                           ("(x)" * 12 + "/" + "()" * 12, ((("x",),) * 12, ((),) * 12)),
                           ("(x)" * 12, ((), (("x",),) * 12))):
            net = read_net(lines("inlet in: a", f"knot a: {rows}", "outlet x", "outlet y"))
            self.assertEqual(net, Net({"a": told}, {"in": "a"}, ["x", "y"]))

    def test_wheels_gates_and_copies(self):
        for line, told in (("wheel a: x", ((), (("x",),))), ("wheel a: x y a", ((), (("x",), ("y",), ("a",)))),
                           ("wheel a:" + " x" * 12, ((), (("x",),) * 12)), ("gate a 1: x", ((), (("x",),))),
                           ("gate a 3: y", ((), ((), (), ("y",)))), ("gate a 12: x", ((), ((),) * 11 + (("x",),))),
                           ("copies a 1: x", ((), (("x",),))), ("copies a 4: y", ((), (("y",) * 4,)))):
            net = read_net(lines(line, "inlet in: a", "outlet x", "outlet y"))
            self.assertEqual(net, Net({"a": told}, {"in": "a"}, ["x", "y"]))

    def test_blanks_remarks_and_lines_without_anything(self):
        told = read_net(RIGHT)
        self.assertEqual(told, Net({"a": ((), (("x",),))}, {"in": "a"}, ["x"]))
        for text in ("inlet in:a\nknot a:(x)\noutlet x", "  inlet   in :  a \n knot a : ( x ) \noutlet   x  ",
                     "\n\n" + RIGHT + "\n\n", "# A net!\n   # \tE\n" + RIGHT + "#", "outlet x#\nknot a:(x)#(y)\ninlet in:a ## b",
                     RIGHT.replace("\n", "\n    \n"), RIGHT.replace("\n", "\n#inlet\n"), "inlet in: a #\u00e9\r\nknot a: (x)\noutlet x"):
            self.assertEqual(read_net(text), told)

    def test_words_of_sixteen_signs_and_figures_in_words(self):
        long = "a234567890123456"
        net = read_net(f"inlet i0: {long}\nwheel {long}: o1 {long}\noutlet o1")
        self.assertEqual(net, Net({long: ((), (("o1",), (long,)))}, {"i0": long}, ["o1"]))
        self.assertEqual(read_net("inlet ends: inlets\nknot inlets: (usex)\noutlet usex").outlets, ("usex",))

    def test_lines_in_any_order(self):
        told = lines("outlet y", "wheel b: a y", "outlet x", "inlet on: b", "wheel a: b x", "inlet in: a")
        self.assertEqual(read_net(told), Net({"a": ((), (("b",), ("x",))), "b": ((), (("a",), ("y",)))},
                                             {"in": "a", "on": "b"}, ["x", "y"]))

    def test_pieces_that_are_not_used_are_not_looked_into(self):
        extra = lines("piece p(a; o)", "knot k: (q.z) (r)", "knot k: (k)", "outlet x", "use u = none()", "end")
        self.assertEqual(read_net(extra + "\n" + RIGHT), read_net(RIGHT))
        self.assertEqual(read_net(RIGHT + "\n" + extra), read_net(RIGHT))


class Using(unittest.TestCase):
    """[15] Pieces and their uses."""

    def test_a_piece_used_more_than_once(self):
        net = read_net(lines("piece half(a; o, p)", "inlet a: w", "wheel w: o p", "end", "inlet in: one.a",
                             "use one = half(p = two.a, o = x)", "use two = half(o = y, p = one.a)", "outlet x", "outlet y"))
        self.assertEqual(net, Net({"one.w": ((), (("x",), ("two.w",))), "two.w": ((), (("y",), ("one.w",)))},
                                  {"in": "one.w"}, ["x", "y"]))

    def test_several_inlets_and_no_outlets(self):
        net = read_net(lines("piece sink(a, b;)", "inlet b: l", "inlet a: k", "knot k: (l) / ()", "knot l: () (k)", "end",
                             "use s = sink()", "inlet in: s.a", "inlet on: s.b", "inlet up: s.a"))
        self.assertEqual(net, Net({"s.k": ((("s.l",),), ((),)), "s.l": ((), ((), ("s.k",)))},
                                  {"in": "s.k", "on": "s.l", "up": "s.k"}, []))

    def test_inlets_and_outlets_in_any_order(self):
        piece = lines("piece p(b, a; r, o)", "inlet {}: k", "inlet {}: k", "knot k: (o) (r)", "end", "outlet x", "outlet y",
                      "inlet in: u.b", "use u = p({}, {})")
        expected = Net({"u.k": ((), (("x",), ("y",)))}, {"in": "u.k"}, ["x", "y"])
        for names in (("a", "b", "o = x", "r = y"), ("b", "a", "r = y", "o = x")):
            self.assertEqual(read_net(piece.format(*names)), expected)

    def test_pieces_use_pieces(self):
        net = read_net(lines("piece half(a; o, p)", "inlet a: w", "wheel w: o p", "end",
                             "piece quarter(b; one, rest)", "use top = half(o = low.a, p = rest)", "inlet b: top.a",
                             "use low = half(o = one, p = rest)", "end",
                             "inlet in: q.b", "use q = quarter(one = x, rest = y)", "outlet x", "outlet y"))
        self.assertEqual(net, Net({"q.top.w": ((), (("q.low.w",), ("y",))), "q.low.w": ((), (("x",), ("y",)))},
                                  {"in": "q.top.w"}, ["x", "y"]))

    def test_targets_over_several_uses_and_inlets(self):
        # The piece has no knots at all: what comes in goes out, over three uses and an outlet of each.
        wire = lines("piece wire(a; o)", "inlet a: o", "end", "piece long(a; o)", "inlet a: u.a", "use u = wire(o = v.a)",
                     "use v = wire(o = o)", "end")
        net = read_net(lines(wire, "inlet in: l.a", "use l = long(o = k)", "use m = long(o = x)", "knot k: (m.a) (k)",
                             "outlet x"))
        self.assertEqual(net, Net({"k": ((), (("x",), ("k",)))}, {"in": "k"}, ["x"]))

    def test_names_are_their_own_in_each_piece(self):
        net = read_net(lines("piece p(p; x)", "inlet p: k", "knot k: (x) (k)", "end", "knot k: (p.p)", "use p = p(x = x)",
                             "inlet in: k", "outlet x"))
        self.assertEqual(net, Net({"k": ((), (("p.k",),)), "p.k": ((), (("x",), ("p.k",)))}, {"in": "k"}, ["x"]))

    def test_an_inlet_of_a_piece_may_be_named_as_an_outlet_or_a_knot_of_it(self):
        net = read_net(lines("piece p(a, k; a)", "inlet a: k", "inlet k: a", "knot k: (a)", "end", "use u = p(a = x)",
                             "knot b: (u.k) (u.a)", "inlet in: b", "outlet x"))
        self.assertEqual(net, Net({"b": ((), (("x",), ("u.k",))), "u.k": ((), (("x",),))}, {"in": "b"}, ["x"]))

    def test_a_use_within_four_uses(self):
        text = chain(5)
        self.assertEqual(list(read_net(text).knots), ["u.u.u.u.u.k"])

    def test_each_knot_within_pieces(self):
        for seed in range(60):
            net, dice = samples.made(seed), Random(seed)
            told, expected = in_pieces(net, dice)
            self.assertEqual(read_net(told), expected)


def chain(deep):
    """A text with a knot within so many uses."""
    told = ["piece p1(a; o)", "inlet a: k", "knot k: (o) (k)", "end"]
    for at in range(2, deep + 1):
        told += [f"piece p{at}(a; o)", "inlet a: u.a", f"use u = p{at - 1}(o = o)", "end"]
    return lines(*told, f"use u = p{deep}(o = x)", "inlet in: u.a", "outlet x")


def in_pieces(net, dice):
    """A text in which each knot of a net is the only one of a piece, and the net that it tells."""
    told, names = [], {}
    for knot, rows in net.knots.items():
        targets = sorted({target for drops in rows for drop in drops for target in drop})
        outlets = {target: f"o{at}" for at, target in enumerate(targets)}
        drops = ["".join(f"({' '.join(outlets[target] for target in drop)})" for drop in row) for row in rows]
        told += [f"piece p{knot}(i; {', '.join(outlets.values())})", f"knot k: {drops[0]} / {drops[1]}", "inlet i: k", "end"]
        inner, names[knot] = f"p{knot}", f"u{knot}.k"
        if dice.random() < 0.5:
            links = ", ".join(f"{outlet} = {outlet}" for outlet in outlets.values())
            told += [f"piece q{knot}(i; {', '.join(outlets.values())})", "inlet i: v.i", f"use v = p{knot}({links})", "end"]
            inner, names[knot] = f"q{knot}", f"u{knot}.v.k"
        links = [f"{outlet} = {target if target in net.outlets else f'u{target}.i'}" for target, outlet in outlets.items()]
        dice.shuffle(links)
        told.append(f"use u{knot} = {inner}({','.join(links)})")
    told += [f"inlet {inlet}: u{knot}.i" for inlet, knot in net.inlets.items()]
    told += [f"outlet {outlet}" for outlet in net.outlets]
    return lines(*told), renamed(net, names)


class Form(unittest.TestCase):
    """[15] Lines that are not of the form that is told."""

    def refused(self, text, line, column):
        with self.assertRaises(BadText) as caught:
            read_net(text)
        self.assertEqual((caught.exception.line, caught.exception.column), (line, column), text)

    def test_no_text(self):
        for told in (None, 5, b"inlet", ["inlet in: a"], True, ("",)):
            self.refused(told, 0, 0)

    def test_signs_that_are_no_part_of_anything(self):
        for sign in "A_-+!'\"\t\r\u00e9[]{}@\u0661\u00b2":
            self.refused(f"inlet in: a{sign}", 1, 12)
            self.refused(RIGHT + f"\n {sign}", 4, 2)
        self.refused("inlet inlet inlet 4 ( a.b !", 1, 27)
        self.refused("what is Wrong ! # !", 1, 9)

    def test_words_that_cannot_stand(self):
        long = "a2345678901234567"
        self.refused(f"inlet {long}: a", 1, 7)
        self.refused(f"inlet a: b.{long}", 1, 12)
        self.refused(f"knot a: (b {long})", 1, 12)
        self.refused(long, 1, 1)
        for word in KEPT:
            for text, column in ((f"inlet {word}: a", 7), (f"inlet a: {word}", 10), (f"inlet a: {word}.b", 10),
                                 (f"inlet a: b.{word}", 12), (f"outlet {word}", 8), (f"knot {word}: (a)", 6),
                                 (f"knot a: (b {word})", 12), (f"wheel a: b {word}", 12), (f"gate {word} 2: a", 6),
                                 (f"gate a 2: {word}", 11), (f"copies {word} 2: a", 8), (f"piece {word}(a;)", 7),
                                 (f"piece p({word};)", 9), (f"piece p(a; {word})", 12), (f"use {word} = p()", 5),
                                 (f"use u = {word}()", 9), (f"use u = p({word} = x)", 11), (f"use u = p(o = {word})", 15)):
                self.refused(text, 1, column)
        for text in ("foo a: b", "in", "5", "(a)", ": a", ". a", "inlets a: b", "inlet2 a: b"):
            self.refused("\n" + text, 2, 1)

    def test_numbers(self):
        for kind, most in (("gate", 12), ("copies", 4)):
            for number in ("0", "00", "01", "012", str(most + 1), "99", "100", "1" * 5000):
                self.refused(f"{kind} a  {number}: x", 1, len(kind) + 5)
            self.refused(f"{kind} a: x", 1, len(kind) + 3)
            self.refused(f"{kind} a b: x", 1, len(kind) + 4)
            self.refused(f"{kind} a 1 2: x", 1, len(kind) + 6)
            self.refused(f"{kind} a 2b: x", 1, len(kind) + 5)
            self.refused(f"{kind} a2: x", 1, len(kind) + 4)
            self.refused(f"{kind} a 2: x y", 1, len(kind) + 9)
        self.refused("knot a: (4)", 1, 10)
        # Figures with a zero in front are no number, so they come ahead of what cannot stand.
        self.refused("inlet inlet: 05", 1, 14)
        self.refused("inlet inlet: 0 50", 1, 7)
        self.refused("inlet 4: a", 1, 7)

    def test_too_many(self):
        self.refused("knot a: " + "()" * 13, 1, 33)
        self.refused("knot a: " + "()" * 13 + " / (x)", 1, 33)
        self.refused("knot a: () / " + "()" * 13, 1, 38)
        self.refused("knot a: (b c d e f)", 1, 18)
        self.refused("knot a: (b c d e.f g)", 1, 20)
        self.refused("wheel a:" + " b" * 13, 1, 34)

    def test_lines_that_end_too_early(self):
        for text in ("inlet", "inlet a", "inlet a:", "inlet a: b.", "outlet", "knot a:", "knot a: (", "knot a: (b",
                     "knot a: (b) /", "wheel a:", "gate a", "gate a 2", "gate a 2:", "copies a 2: b.", "piece", "piece p",
                     "piece p(", "piece p(a", "piece p(a,", "piece p(a;", "piece p(a; o", "piece p(a; o,", "use", "use u",
                     "use u =", "use u = p", "use u = p(", "use u = p(o", "use u = p(o =", "use u = p(o = t",
                     "use u = p(o = t,", "use u = p(o = t."):
            self.refused(text, 1, len(text) + 1)
            self.refused(f"{text}  # !", 1, len(text) + 6)
            self.refused(f"\n{text}   \n!", 2, len(text) + 4)

    def test_what_follows_or_is_left_out(self):
        for text, column in (("outlet x y", 10), ("outlet x.y", 9), ("inlet a b", 9), ("inlet a: b c", 12),
                             ("inlet a:: b", 9), ("inlet a.b: c", 8), ("inlet a: b.c.d", 13), ("inlet a: b..c", 12),
                             ("knot a: b", 9), ("knot a: (b) c", 13), ("knot a: (b,c)", 11), ("knot a: ((b))", 10),
                             ("knot a: (b) / / (c)", 15), ("knot a: (b) / (c) / (d)", 19), ("knot a: )", 9),
                             ("knot a: / / (b)", 11), ("knot a: (b.)", 12), ("knot a: (.b)", 10), ("wheel a: (b)", 10),
                             ("wheel a: b, c", 11), ("wheel a: 3", 10), ("piece p(;)", 9), ("piece p(a)", 10),
                             ("piece p(a, a;)", 12), ("piece p(a; o, b, o)", 18), ("piece p(a b;)", 11),
                             ("piece p(a;; )", 11), ("piece p(a; o;)", 13), ("piece p(a,; o)", 11), ("piece p(a; o,)", 14),
                             ("piece p(a;) x", 13), ("piece p.q(a;)", 8), ("use u p()", 7), ("use u = p(o)", 12),
                             ("use u = p(o = t p = t)", 17), ("use u = p(o = t,)", 17), ("use u = p(,)", 11),
                             ("use u = p() x", 13), ("use u = p;", 10), ("use u.v = p()", 6), ("end", 1)):
            self.refused(text, 1, column)

    def test_pieces_within_pieces_and_ends(self):
        self.refused("piece p(a;)\n piece q(a;)", 2, 2)
        self.refused("piece p(a;)\nend\nend", 3, 1)
        self.refused("piece p(a;)\nend x", 2, 5)
        self.refused(RIGHT + "\nend", 4, 1)

    def test_a_piece_without_an_end(self):
        self.refused("piece p(a;)", 2, 1)
        self.refused("piece p(a;)\n", 3, 1)
        self.refused(RIGHT + "\npiece p(a;)\ninlet a: b\n# end", 7, 1)
        self.refused("piece p(a;)\ninlet a b", 2, 9)

    def test_form_is_ahead_of_everything_else(self):
        wrong = lines("inlet in: a", "inlet in: a", "knot a: (q)", "use u = none()")
        self.refused(wrong + "\nknot", 5, 5)
        self.refused(wrong + "\npiece p(a;)", 6, 1)
        self.refused("outlet x y\noutlet !", 1, 10)
        self.refused("outlet x\noutlet x y\noutlet !", 2, 10)


class Pieces(unittest.TestCase):
    """[15] Lines that are wrong, in the order in which they are told."""

    def refused(self, text, line, why):
        with self.assertRaises(BadPiece) as caught:
            read_net(text)
        self.assertEqual((caught.exception.line, caught.exception.why), (line, why), text)

    def test_a_piece_told_already(self):
        twice = lines("piece p(a;)", "end", "piece q(a;)", "end", "piece q(b; o)", "end", "piece p(a;)", "end")
        self.refused(twice + "\n" + RIGHT, 5, "twice")
        self.refused(lines("inlet in: a", "inlet in: a", twice), 7, "twice")

    def test_names_told_already(self):
        self.refused(RIGHT + "\ninlet in: a", 4, "twice")
        for line in ("knot a: (x)", "wheel a: x", "gate a 2: x", "copies a 2: x", "outlet a", "use a = none()"):
            self.refused(RIGHT + "\n" + line, 4, "twice")
            self.refused(RIGHT + "\n" + line.replace(" a", " x", 1), 4, "twice")
        used = lines("piece p(a;)", "inlet a: k", "knot k: ()", "end", "use u = p()", "inlet in: u.a")
        for line in ("knot u: ()", "outlet u", "use u = p()"):
            self.refused(used + "\n" + line, 7, "twice")

    def test_names_in_a_piece(self):
        for line, why in (("knot k: (o)", "twice"), ("knot o: (o)", "twice"), ("use o = none()", "twice"),
                          ("outlet o", "twice"), ("outlet k", "twice"), ("outlet z", "outlet"), ("inlet a: k", "twice")):
            text = lines("piece p(a; o)", "inlet a: k", "knot k: (o)", line, "end", "use u = p(o = x)", "outlet x", "inlet in: u.a")
            self.refused(text, 4, why)

    def test_uses(self):
        piece = lines("piece p(a; o, r)", "inlet a: k", "knot k: (o) (r)", "end", RIGHT)
        for line, why in (("use u = q(o = x, r = x)", "piece"), ("use u = p(o = x)", "outlets"), ("use u = p()", "outlets"),
                          ("use u = p(o = x, r = x, s = x)", "outlets"), ("use u = p(o = x, r = x, o = x)", "outlets"),
                          ("use u = p(o = x, o = x)", "outlets"), ("use u = p(o = x, s = x)", "outlets"),
                          ("use a = q(o = x)", "twice"), ("use a = p()", "twice")):
            self.refused(piece + "\n" + line, 8, why)
        none = lines("piece n(a;)", "inlet a: k", "knot k: ()", "end", RIGHT)
        self.refused(none + "\nuse u = n(o = x)", 8, "outlets")

    def test_only_pieces_whose_end_stands_ahead(self):
        piece = lines("piece p(a;)", "inlet a: k", "knot k: ()", "end")
        self.refused(lines("use u = p()", piece, "inlet in: u.a"), 1, "piece")
        self.refused(lines("piece p(a;)", "use u = p()", "inlet a: u.a", "end", "use v = p()"), 2, "piece")
        self.refused(lines("piece q(a;)", "use u = p()", "inlet a: u.a", "end", piece, "use v = q()"), 2, "piece")

    def test_too_deep(self):
        for deep in (6, 7, 8):
            text = chain(deep)
            line = text.split("\n").index(f"use u = p{deep - 5}(o = o)") + 1
            self.refused(text, line, "deep")
        self.refused(chain(6).replace("use u = p1(o = o)", "use u = p1()"), 7, "outlets")

    def test_inlets_of_a_piece(self):
        for inlets in ("", "inlet b: k", "inlet a: k", "inlet a: k\ninlet b: k\ninlet c: k", "inlet a: k\ninlet c: k"):
            text = lines("", "piece p(a, b; o)", inlets, "knot k: (o)", "end", "use u = p(o = x)", "outlet x", "inlet in: u.a")
            self.refused(text, 2, "inlets")

    def test_inlets_come_behind_the_lines_of_the_piece_and_ahead_of_what_follows(self):
        text = lines("piece p(a; o)", "knot k: (o)", "{}", "end", "use u = p(o = x)", "outlet x", "{}", "inlet in: u.a")
        self.refused(text.format("", "outlet x"), 1, "inlets")
        self.refused(text.format("outlet z", "outlet x"), 3, "outlet")
        self.refused(text.format("inlet a: k", "outlet x"), 7, "twice")

    def test_lines_of_a_piece_stand_at_the_line_of_its_use(self):
        text = lines("piece p(a; o)", "inlet a: k", "knot k: (o)", "knot k: (o)", "end", "{}", "use u = p(o = x)", "outlet x",
                     "inlet in: u.a", "use u = p()")
        self.refused(text.format(""), 4, "twice")
        self.refused(text.format("use v = none()"), 6, "piece")
        self.refused(text.replace("use u = p(o = x)", "use u = p()", 1).format(""), 7, "outlets")

    def test_targets_that_are_none(self):
        self.refused("inlet in: a\nknot a: (y)\noutlet x", 2, "name")
        self.refused("inlet in: b\nknot a: (x)\noutlet x", 1, "name")
        for target in ("in", "a.b", "u", "u.b", "u.k", "u.o", "v.a", "x.a", "o", "k"):
            text = lines("piece p(a; o)", "inlet a: k", "knot k: (o)", "end", "inlet in: b", "use u = p(o = x)",
                         f"wheel b: x u.a {target}", "outlet x")
            self.refused(text, 7, "name")
            self.refused(text.replace("inlet in: b", f"inlet in: {target}").replace(f"u.a {target}", "u.a"), 5, "name")

    def test_targets_of_pieces_tell_the_line_of_the_knot(self):
        text = lines("piece p(a; o)", "inlet a: k", "knot k: (o)", "end", "inlet in: u.a", "use u = p(o = y)", "outlet x")
        self.refused(text, 3, "name")
        text = lines("piece p(a; o)", "inlet a: y", "end", "inlet in: u.a", "use u = p(o = x)", "outlet x")
        self.refused(text, 4, "name")
        self.refused(text + "\nknot k: (x) (u.a)", 7, "name")
        text = lines("piece p(a; o)", "inlet a: k", "knot k: (x)", "end", "inlet in: u.a", "use u = p(o = x)", "outlet x")
        self.refused(text, 3, "name")

    def test_wrong_targets_to_which_nothing_comes(self):
        wires = lines("piece p(a, b; o)", "inlet a: k", "inlet b: none", "knot k: (k)", "end")
        net = read_net(lines(wires, "inlet in: u.a", "use u = p(o = none.a)"))
        self.assertEqual(net, Net({"u.k": ((), (("u.k",),))}, {"in": "u.k"}, []))

    def test_loops(self):
        wire = lines("piece p(a; o)", "inlet a: o", "end")
        self.refused(lines(wire, "use u = p(o = u.a)", "inlet in: u.a"), 5, "loop")
        self.refused(lines(wire, "use u = p(o = v.a)", "use v = p(o = u.a)", "knot k: () / () (u.a)", "inlet in: k"), 6, "loop")
        self.refused(lines(wire, "piece q(a; o)", "inlet a: u.a", "use u = p(o = o)", "wheel k: u.a", "end",
                           "use v = q(o = w.a)", "use w = p(o = v.a)", "inlet in: v.a"), 7, "loop")
        two = lines("piece p(a, b; o)", "inlet a: o", "inlet b: k", "knot k: (o)", "end")
        net = read_net(lines(two, "use u = p(o = u.b)", "inlet in: u.a"))
        self.assertEqual(net, Net({"u.k": ((), (("u.k",),))}, {"in": "u.k"}, []))

    def test_knots_come_ahead_of_inlets_and_lines_ahead_of_targets(self):
        wire = lines("piece p(a; o)", "inlet a: o", "end")
        text = lines(wire, "inlet in: none", "knot b: (c)", "knot a: (u.a)", "use u = p(o = u.a)", "{}")
        self.refused(text.format(""), 5, "name")
        self.refused(text.format("").replace("(c)", "(a)"), 6, "loop")
        self.refused(text.format("").replace("(c)", "(a)").replace("(u.a)", "(b)"), 4, "name")
        self.refused(text.format("knot a: (b)"), 8, "twice")
        text = lines("piece p(a; o)", "inlet a: k", "knot k: (o) (r)", "end", "knot z: {}", "use u = p(o = z)", "knot b: (s)",
                     "inlet in: z")
        self.refused(text.format("(u.a)"), 3, "name")
        self.refused(text.format("(t)"), 5, "name")

    def test_errors_of_nets_come_last(self):
        for text, name in (("", None), ("\n# nothing\n", None), ("inlet in: a\nknot a: (x)\noutlet x\nknot b: (x)", "b"),
                           ("inlet a: a\nknot a: ()", "a"), ("inlet x: a\nknot a: ()\noutlet x", "x"), ("outlet x", None),
                           ("inlet in: x\noutlet x\nknot a: (x)", "in"), ("knot a: ()", None),
                           ("inlet in: x\noutlet x", None)):
            with self.assertRaises(BadNet) as caught:
                read_net(text)
            self.assertEqual(caught.exception.name, name)
        many = lines("inlet in: k0", *[f"wheel k{at}: k{at + 1}" for at in range(12)], "{}")
        with self.assertRaises(BadNet) as caught:
            read_net(many.format("knot k12: ()"))
        self.assertIsNone(caught.exception.name)
        self.refused(many.format("knot k12: (none)"), 14, "name")
        self.assertEqual(len(read_net(many.format("outlet k12"))), 12)

    def test_names_that_become_too_long(self):
        text = lines("piece p(a;)", "inlet a: k", "knot k: ()", "end", "piece q(a;)", "inlet a: {0}.a", "use {0} = p()", "end",
                     "use {1} = q()", "inlet in: {1}.a")
        self.assertEqual(list(read_net(text.format("a" * 7, "b" * 6)).knots), [f"{'b' * 6}.{'a' * 7}.k"])
        with self.assertRaises(BadNet) as caught:
            read_net(text.format("a" * 7, "b" * 7))
        self.assertEqual(caught.exception.name, f"{'b' * 7}.{'a' * 7}.k")


class Writing(unittest.TestCase):
    """[15] Nets that are written."""

    def test_fronts_and_drops(self):
        self.assertEqual(write_net(samples.fronted()),
                         "inlet in: a\ninlet left: b\nknot a: (x z) (b) / (b b) (x) ()\n"
                         "knot b: (a) / (y) () (a y y y)\noutlet x\noutlet y\noutlet z\n")
        self.assertEqual(write_net(Net({"a": (((),), ((),))}, {"in": "a"}, [])), "inlet in: a\nknot a: () / ()\n")

    def test_names_with_dots(self):
        rows = ((), (("x",),))
        net = Net({"a.b": rows, "ab": rows, "a.b.": rows, "ab2": rows, "e.nd": rows, "end": rows},
                  {"in": "ab", "i.n": "ab2", "k": "a.b", "inlet": "a.b.", "on": "e.nd", "o.n": "end"}, ["x", "a..b", "us.e"])
        self.assertEqual(write_net(net), lines(
            "inlet in: ab22", "inlet in2: ab3", "inlet inlet2: ab2", "inlet k: ab", "inlet on: end3", "inlet on2: end2",
            "knot ab: (x)", "knot ab2: (x)", "knot ab3: (x)", "knot ab22: (x)", "knot end2: (x)", "knot end3: (x)",
            "outlet ab4", "outlet use2", "outlet x", ""))

    def test_the_order_is_that_of_the_names_of_the_net(self):
        rows = ((), (("b.c", "b0"),))
        net = Net({"b0": rows, "b.c": rows, "c": rows}, {"z": "c", "y.a": "c"}, [])
        self.assertEqual(write_net(net), "inlet ya: c\ninlet z: c\nknot bc: (bc b0)\nknot b0: (bc b0)\nknot c: (bc b0)\n")

    def test_numbers_behind_names(self):
        rows = ((), ((),))
        net = Net({"a.": rows, "a..": rows, "a...": rows, "a": rows, "a2": rows, "a3.": rows},
                  {f"i{at}": knot for at, knot in enumerate(["a", "a.", "a..", "a...", "a2", "a3."])}, [])
        self.assertEqual(write_net(net).split("\n")[6:], ["knot a: ()", "knot a2: ()", "knot a3: ()", "knot a4: ()",
                                                          "knot a22: ()", "knot a32: ()", ""])

    def test_what_is_written_is_read_again(self):
        nets = [samples.told(), samples.fronted(), samples.gates(), samples.walk(), samples.twelve(),
                *samples.endless().values(), *[samples.made(seed) for seed in range(60)]]
        for net in nets:
            names = {name: name.replace(".", "") for name in [*net.knots, *net.outlets, *net.inlets]}
            self.assertEqual(read_net(write_net(net)), renamed(net, names))
        self.assertEqual(read_net(write_net(read_net(EXAMPLE))), renamed(read_net(EXAMPLE), {"q.v": "qv", "q.w": "qw"}))

    def test_words_that_are_kept(self):
        knots = {word: ((), ((KEPT[at - 1],),)) for at, word in enumerate(KEPT)}
        net = Net(knots, {"in": "use"}, [])
        self.assertEqual(read_net(write_net(net)), renamed(net, {word: word + "2" for word in KEPT}))

    def test_no_nets_and_nothing_changed(self):
        for net in samples.NO_NETS:
            with self.assertRaises(BadNet) as caught:
                write_net(net)
            self.assertIsNone(caught.exception.name)
        net = samples.fronted()
        write_net(net)
        self.assertEqual(net, samples.fronted())
