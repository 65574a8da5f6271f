"""Books of named nets ([16])."""

import unittest
from random import Random

from ballchutes.alikes import Alike, Told, judge_alike
from ballchutes.books import Book
from ballchutes.errors import BadNet, NeverEnds, NoPart, NothingDone, Unlike
from ballchutes.nets import Net
from ballchutes.shares import share_of
from tests import samples


def row(targets, outlets="xy", inlet="in"):
    """A net of one knot that does drops of one target each."""
    return Net({"a": ((), tuple((sign,) for sign in targets))}, {inlet: "a"}, list(outlets))


def filled(**nets):
    book = Book()
    for name, targets in nets.items():
        book.put(name, row(targets))
    return book


def state(book):
    return {name: book[name] for name in book.titles()}


class Puts(unittest.TestCase):
    """[16] Nets that are put and dropped."""

    def test_names_and_nets(self):
        book = Book()
        self.assertEqual((len(book), book.titles(), "a" in book), (0, [], False))
        for name in ("two", "", "One two! \u00e9", "a" * 100):
            self.assertIsNone(book.put(name, row("xy")))
        self.assertEqual((len(book), book.titles()), (4, ["", "One two! \u00e9", "a" * 100, "two"]))
        self.assertEqual((book["two"], "two" in book, "three" in book, 5 in book), (row("xy"), True, False, False))
        self.assertIs(["two"] in book, False)

    def test_a_net_in_the_place_of_one(self):
        book = filled(a="xy", b="x")
        self.assertIsNone(book.put("a", row("yx")))
        self.assertEqual((state(book), len(book)), ({"a": row("yx"), "b": row("x")}, 2))

    def test_drop(self):
        book = filled(a="xy", b="x")
        self.assertEqual(book.drop("a"), row("xy"))
        self.assertEqual((state(book), "a" in book, len(book)), ({"b": row("x")}, False, 1))

    def test_twelve_nets(self):
        self.assertEqual((Book.MOST, Book().MOST), (12, 12))
        book = filled(**{f"n{at}": "xy" for at in range(12)})
        for name in ("n12", ""):
            with self.assertRaises(NoPart) as caught:
                book.put(name, row("x"))
            self.assertIsNone(caught.exception.name)
        self.assertIsNone(book.put("n3", row("x")))
        self.assertEqual((len(book), book["n3"]), (12, row("x")))
        with self.assertRaises(BadNet):
            book.put("n12", None)
        book.drop("n5")
        self.assertIsNone(book.put("n12", row("y")))
        self.assertEqual(len(book), 12)

    def test_a_book_cannot_be_walked(self):
        for book in (Book(), filled(a="x")):
            with self.assertRaises(TypeError):
                iter(book)
            with self.assertRaises(TypeError):
                list(book)

    def test_errors(self):
        book = filled(a="xy")
        for net in samples.NO_NETS:
            with self.assertRaises(BadNet) as caught:
                book.put("b", net)
            self.assertIsNone(caught.exception.name)
        for name in ("b", "", None, 5, ["a"]):
            for call in (book.__getitem__, book.drop):
                with self.assertRaises(NoPart) as caught:
                    call(name)
                self.assertEqual(caught.exception.name, name)
        self.assertEqual(state(book), {"a": row("xy")})
        book.undo()
        with self.assertRaises(NothingDone):
            book.undo()

    def test_what_is_given_is_copied_and_what_is_returned_is_new(self):
        net = row("xy")
        book = Book()
        book.put("a", net)
        net.knots.clear()
        book["a"].knots.clear()
        book.titles().clear()
        self.assertEqual((book["a"], book.titles()), (row("xy"), ["a"]))
        book.drop("a").knots.clear()
        book.undo()
        self.assertEqual(book["a"], row("xy"))

    def test_nets_that_do_not_end_may_be_put(self):
        book = Book()
        self.assertIsNone(book.put("a", samples.endless()["itself"]))
        self.assertEqual(book["a"], samples.endless()["itself"])

    def test_books_have_nothing_in_common(self):
        one, other = filled(a="xy"), filled(b="x")
        one.claim_share("a", "in", "x")
        self.assertEqual((one.titles(), other.titles(), other.drop("b")), (["a"], ["b"], row("x")))


class Claims(unittest.TestCase):
    """[16] Claims that are kept and broken."""

    def test_alike_nets(self):
        book = filled(a="xy", b="xyxy")
        self.assertEqual(book.claim_alike("a", "b"), judge_alike(row("xy"), row("xyxy")))
        self.assertIsNone(book.put("a", row("xyxyxy")))
        self.assertEqual(book.put("a", row("yx")), Told({"in": 1}))
        self.assertEqual(book.put("b", row("xyx")), Told({"in": 4}))
        self.assertEqual(state(book), {"a": row("xyxyxy"), "b": row("xyxy")})

    def test_what_is_not_so_is_not_claimed(self):
        book = filled(a="xy", b="yx")
        self.assertEqual(book.claim_alike("a", "b"), Told({"in": 1}))
        self.assertIsNone(book.put("a", row("x")))
        self.assertEqual(book.drop("b"), row("yx"))

    def test_shares(self):
        book = filled(a="xyx")
        self.assertEqual(book.claim_share("a", "in", "x"), (2, 3))
        self.assertEqual(book.claim_share("a", "a", "y"), (1, 3))
        self.assertIsNone(book.put("a", row("yxx")))
        self.assertEqual(book.put("a", row("xy")), ((2, 3), (1, 2)))
        self.assertEqual(book["a"], row("yxx"))

    def test_the_first_claim_that_is_broken(self):
        book = filled(a="xy", b="xyxy", c="yx")
        book.claim_share("a", "in", "y")
        book.claim_alike("a", "b")
        self.assertEqual(book.put("a", row("x")), ((1, 2), (0, 1)))
        self.assertEqual(book.put("a", row("yx")), Told({"in": 1}))
        self.assertEqual(book.put("b", row("x")), Told({"in": 2}))
        self.assertIsNone(book.put("c", row("x")))
        book = filled(a="xy", b="xyxy")
        book.claim_alike("b", "a")
        book.claim_share("a", "in", "y")
        self.assertEqual(book.put("a", row("x")), Told({"in": 2}))

    def test_a_net_alike_itself(self):
        book = filled(a="xy")
        self.assertEqual(book.claim_alike("a", "a"), Alike([(0, 0), (1, 1)]))
        self.assertIsNone(book.put("a", row("x")))
        with self.assertRaises(NoPart):
            book.drop("a")

    def test_nets_that_claims_name_are_not_dropped(self):
        book = filled(a="xy", b="xy", c="x", d="x")
        book.claim_alike("a", "b")
        book.claim_share("c", "in", "x")
        for name in "abc":
            with self.assertRaises(NoPart) as caught:
                book.drop(name)
            self.assertEqual(caught.exception.name, name)
        self.assertEqual((book.drop("d"), book.titles()), (row("x"), ["a", "b", "c"]))

    def test_errors_of_claims(self):
        book = filled(a="xy", b="xy")
        book.put("more", row("xy", "xyz"))
        book.put("other", row("xy", "xy", "on"))
        book.put("never", samples.endless()["itself"])
        for one, other, name in (("a", "q", "q"), ("q", "r", "q"), ("never", "q", "q"), (None, "a", None), ("a", ["a"], ["a"])):
            with self.assertRaises(NoPart) as caught:
                book.claim_alike(one, other)
            self.assertEqual(caught.exception.name, name)
        for pair in (("a", "never"), ("never", "other"), ("never", "never")):
            with self.assertRaises(NeverEnds):
                book.claim_alike(*pair)
        for other, what in (("more", "outlets"), ("other", "inlets")):
            with self.assertRaises(Unlike) as caught:
                book.claim_alike("a", other)
            self.assertEqual(caught.exception.what, what)
        for told, name in ((("q", "r", "s"), "q"), (("a", "r", "s"), "r"), (("a", "in", "s"), "s"), (("a", "x", "x"), "x"),
                           (("a", "a", "in"), "in"), ((5, "in", "x"), 5)):
            with self.assertRaises(NoPart) as caught:
                book.claim_share(*told)
            self.assertEqual(caught.exception.name, name)
        with self.assertRaises(NeverEnds):
            book.claim_share("never", "q", "r")
        for name in ("a", "b", "more", "other", "never"):
            book.drop(name)

    def test_errors_of_judging_when_a_net_is_put(self):
        book = filled(a="xy", b="xy")
        book.claim_alike("a", "b")
        book.claim_share("a", "a", "x")
        ring = Net({"b": ((), (("x",), ("y",)))}, {"in": "b"}, ["x", "y"])
        for net, error in ((samples.endless()["itself"], NeverEnds), (row("xy", "xy", "on"), Unlike),
                           (row("xy", "xyz"), Unlike), (ring, NoPart)):
            with self.assertRaises(error):
                book.put("a", net)
            self.assertEqual(state(book), {"a": row("xy"), "b": row("xy")})
        self.assertIs(book.undo(), False)
        self.assertEqual(book.put("a", row("x")), Told({"in": 2}))

    def test_a_claim_broken_comes_ahead_of_an_error_by_a_later_one(self):
        book = filled(a="xy", b="xy")
        book.claim_share("a", "in", "x")
        book.claim_share("a", "a", "x")
        other = Net({"b": ((), (("x",), ("x",), ("y",)))}, {"in": "b"}, ["x", "y"])
        self.assertEqual(book.put("a", other), ((1, 2), (2, 3)))
        with self.assertRaises(NoPart) as caught:
            book.put("a", Net({"b": ((), (("x",), ("y",)))}, {"in": "b"}, ["x", "y"]))
        self.assertEqual(caught.exception.name, "a")


class Undoing(unittest.TestCase):
    """[16] Puts and drops that are undone."""

    def test_a_put_and_a_drop(self):
        book = filled(a="xy")
        book.put("a", row("x"))
        book.put("b", row("y"))
        book.drop("a")
        for expected in ({"a": row("x"), "b": row("y")}, {"a": row("x")}, {"a": row("xy")}, {}):
            self.assertIs(book.undo(), True)
            self.assertEqual(state(book), expected)
        for _ in range(2):
            with self.assertRaises(NothingDone):
                book.undo()
        self.assertEqual(state(book), {})

    def test_nothing_done(self):
        with self.assertRaises(NothingDone):
            Book().undo()

    def test_what_was_refused_or_undone_is_not_undone_again(self):
        book = filled(a="xy", b="xy")
        book.claim_alike("a", "b")
        book.put("c", row("x"))
        book.put("a", row("x"))
        with self.assertRaises(NoPart):
            book.drop("a")
        self.assertIs(book.undo(), True)
        self.assertEqual(book.titles(), ["a", "b"])
        book.put("d", row("y"))
        self.assertIs(book.undo(), True)
        self.assertEqual(state(book), {"a": row("xy"), "b": row("xy")})

    def test_a_claim_that_names_a_net_that_would_be_gone(self):
        book = filled(a="xy", b="xy")
        book.claim_alike("a", "b")
        for _ in range(2):
            self.assertIs(book.undo(), False)
            self.assertEqual(state(book), {"a": row("xy"), "b": row("xy")})
        book.put("c", row("x"))
        self.assertEqual((book.undo(), book.undo()), (True, False))

    def test_a_claim_that_would_be_broken(self):
        book = filled(a="x", b="xy")
        book.put("a", row("xyxy"))
        book.claim_alike("a", "b")
        self.assertIs(book.undo(), False)
        self.assertEqual(book["a"], row("xyxy"))
        book = filled(a="x")
        book.put("a", row("xy"))
        book.claim_share("a", "in", "y")
        self.assertIs(book.undo(), False)
        self.assertEqual(book["a"], row("xy"))

    def test_a_claim_that_would_be_kept(self):
        book = filled(a="xy", b="xy")
        book.put("a", row("xyxy"))
        book.claim_alike("a", "b")
        self.assertIs(book.undo(), True)
        self.assertEqual(state(book), {"a": row("xy"), "b": row("xy")})
        self.assertEqual(book.put("a", row("x")), Told({"in": 2}))

    def test_a_claim_that_cannot_be_judged(self):
        book = Book()
        book.put("a", row("xy", "xy"))
        book.put("a", row("xy", "xyz"))
        book.claim_share("a", "in", "z")
        with self.assertRaises(NoPart) as caught:
            book.undo()
        self.assertEqual((caught.exception.name, book["a"]), ("z", row("xy", "xyz")))
        book = Book()
        book.put("a", samples.endless()["itself"])
        book.put("a", row("xy"))
        book.claim_alike("a", "a")
        with self.assertRaises(NeverEnds):
            book.undo()
        self.assertEqual(book["a"], row("xy"))


class Trials(unittest.TestCase):
    """[16] Trials that end well, and trials that an error ends."""

    def test_one_that_ends_well(self):
        book = filled(a="xy")
        with book.trial() as same:
            self.assertIs(same, book)
            same.put("b", row("x"))
            same.claim_share("b", "in", "x")
        self.assertEqual(book.titles(), ["a", "b"])
        with self.assertRaises(NoPart):
            book.drop("b")
        self.assertIs(book.undo(), False)

    def test_one_that_an_error_ends(self):
        book = filled(a="xy", b="xy", c="x")
        book.claim_share("a", "in", "x")
        with self.assertRaises(KeyError):
            with book.trial() as same:
                same.drop("c")
                same.put("b", row("y"))
                same.put("d", row("y"))
                same.claim_share("b", "in", "y")
                same.claim_alike("b", "d")
                raise KeyError("so")
        self.assertEqual(state(book), {"a": row("xy"), "b": row("xy"), "c": row("x")})
        self.assertEqual(book.put("a", row("x")), ((1, 2), (1, 1)))
        self.assertEqual(book.drop("b"), row("xy"))
        self.assertEqual([book.undo(), book.undo(), book.undo()], [True, True, True])
        self.assertEqual(book.titles(), ["a"])
        self.assertIs(book.undo(), False)

    def test_undos_in_a_trial(self):
        book = filled(a="xy", b="x")
        with self.assertRaises(NothingDone):
            with book.trial() as same:
                same.undo()
                same.undo()
                same.undo()
        self.assertEqual((book.titles(), book.undo(), book.titles()), (["a", "b"], True, ["a"]))

    def test_errors_of_the_book_end_it_too(self):
        book = filled(a="xy")
        with self.assertRaises(BadNet):
            with book.trial() as same:
                same.put("b", row("x"))
                same.put("c", None)
        self.assertEqual(book.titles(), ["a"])
        with book.trial() as same:
            same.put("b", row("x"))
            with self.assertRaises(BadNet):
                same.put("c", None)
        self.assertEqual(book.titles(), ["a", "b"])

    def test_trials_within_trials(self):
        book = filled(a="xy")
        with book.trial() as same:
            same.put("b", row("x"))
            with self.assertRaises(ValueError):
                with book.trial() as inner:
                    inner.put("c", row("x"))
                    raise ValueError
            self.assertEqual(same.titles(), ["a", "b"])
            with book.trial() as inner:
                inner.put("d", row("x"))
        self.assertEqual(book.titles(), ["a", "b", "d"])
        with self.assertRaises(ValueError):
            with book.trial() as same:
                with same.trial() as inner:
                    inner.drop("a")
                self.assertEqual(book.titles(), ["b", "d"])
                raise ValueError
        self.assertEqual(book.titles(), ["a", "b", "d"])

    def test_the_beginning_is_where_the_work_begins(self):
        book = Book()
        trial = book.trial()
        book.put("a", row("x"))
        with self.assertRaises(ValueError):
            with trial as same:
                same.put("b", row("x"))
                raise ValueError
        self.assertEqual(book.titles(), ["a"])

    def test_attempts(self):
        book = filled(a="xy")

        def well(same):
            self.assertIs(same, book)
            return same.put("b", row("x")), same.titles()

        def ill(same):
            same.drop("a")
            raise KeyError(same.titles()[0])
        self.assertEqual(book.attempt(well), (None, ["a", "b"]))
        with self.assertRaises(KeyError):
            book.attempt(ill)
        self.assertEqual((book.titles(), book.attempt(Book.titles), book.attempt(len)), (["a", "b"], ["a", "b"], 2))
        self.assertIs(book.attempt(Book.undo), True)
        self.assertEqual(book.titles(), ["a"])
        self.assertIsNone(book.attempt(lambda same: None))


class ByChance(unittest.TestCase):
    """[16] Books to which many things are done, compared with a list of what they should be."""

    def test_one_by_one(self):
        rows = ["x", "y", "xy", "yx", "xyxy", "xyx", "xxy", "yxx"]
        for seed in range(40):
            dice, book, now, ahead, claims = Random(seed), Book(), {}, [], []
            for _ in range(40):
                name, other, targets = dice.choice("abc"), dice.choice("abc"), dice.choice(rows)
                deed = dice.choice(["put"] * 4 + ["drop", "undo", "undo", "alike", "share"])
                if deed == "put":
                    expected = self.breach(claims, {**now, name: targets})
                    self.assertEqual(book.put(name, row(targets)), expected)
                    if expected is None:
                        ahead.append(now)
                        now = {**now, name: targets}
                elif deed == "drop":
                    if name in now and not any(name in claim[:2] for claim in claims):
                        self.assertEqual(book.drop(name), row(now[name]))
                        ahead.append(now)
                        now = {key: now[key] for key in now if key != name}
                    else:
                        self.assertRaises(NoPart, book.drop, name)
                elif deed == "undo" and ahead:
                    back = all(key in ahead[-1] for claim in claims for key in claim[:2])
                    back = back and self.breach(claims, ahead[-1]) is None
                    self.assertIs(book.undo(), back)
                    now = ahead.pop() if back else now
                elif deed == "alike" and name in now and other in now and len(claims) < 2:
                    if book.claim_alike(name, other):
                        claims.append((name, other, None))
                elif deed == "share" and name in now and len(claims) < 2:
                    claims.append((name, name, book.claim_share(name, "in", "x")))
                self.assertEqual(state(book), {key: row(now[key]) for key in sorted(now)})

    def breach(self, claims, nets):
        for one, other, share in claims:
            if share is None:
                found = judge_alike(row(nets[one]), row(nets[other]))
                if not found:
                    return found
            elif share_of(row(nets[one]), "in", "x") != share:
                return share, share_of(row(nets[one]), "in", "x")
        return None
