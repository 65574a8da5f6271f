"""The errors of the package ([1] and the interface)."""

import unittest

from ballchutes import errors
from ballchutes.errors import (BadBalls, BadChange, BadGoal, BadNet, BadNumber, BadOrder, BadPiece, BadShares,
                               BadStanding, BadText, ChuteError, NeverEnds, NoPart, NotBack, NothingDone, TooLarge,
                               Unlike)


class Errors(unittest.TestCase):
    def test_all_are_direct_subclasses(self):
        self.assertEqual(ChuteError.__bases__, (ValueError,))
        for error in (BadNet, BadStanding, BadBalls, BadOrder, NeverEnds, NoPart, NotBack, TooLarge, Unlike,
                      BadShares, BadText, BadPiece, NothingDone, BadGoal, BadNumber, BadChange):
            self.assertEqual(error.__bases__, (ChuteError,))
            self.assertEqual(error.__module__, errors.__name__)

    def test_attributes(self):
        self.assertEqual(BadNet("a").name, "a")
        self.assertIsNone(BadNet(None).name)
        self.assertEqual(BadOrder(3).place, 3)
        self.assertIsNone(BadOrder(None).place)
        self.assertEqual(NoPart("b").name, "b")
        self.assertEqual(Unlike("inlets").what, "inlets")
        self.assertEqual((BadText(2, 5).line, BadText(2, 5).column), (2, 5))
        self.assertEqual((BadPiece(4, "deep").line, BadPiece(4, "deep").why), (4, "deep"))

    def test_errors_say_what_they_know(self):
        for error, word in ((BadNet("qq"), "qq"), (BadOrder(31), "31"), (NoPart("qq"), "qq"),
                            (Unlike("outlets"), "outlets"), (BadText(31, 5), "31"), (BadPiece(4, "deep"), "deep"),
                            (NeverEnds("so"), "so")):
            self.assertIn(word, str(error))
