"""What the interface lists stands in the files and classes under which it lists it."""

import ast
import importlib
import inspect
import unittest
from pathlib import Path

PACKAGE = Path(__file__).resolve().parent.parent / "ballchutes"

ERRORS = ("ChuteError", "BadNet", "BadStanding", "BadBalls", "BadOrder", "NeverEnds", "NoPart", "NotBack", "TooLarge",
          "Unlike", "BadShares", "BadText", "BadPiece", "NothingDone", "BadGoal", "BadNumber", "BadChange")
CLASSES = {
    "errors": {name: {} for name in ERRORS},
    "nets": {"Net": {"__init__": "knots, inlets, outlets", "start": "", "dropped": "name, place, many",
                     "place_behind": "name, place, many", "__len__": "", "__contains__": "name", "__eq__": "other"}},
    "settling": {"Settled": {"__init__": "taken, out, standing, order", "shows": "net, balls, standing=None",
                             "__eq__": "other"}},
    "ending": {"Ends": {"__init__": "weights", "shows": "net", "__bool__": "", "__eq__": "other"},
               "Never": {"__init__": "balls, lead, ring", "shows": "net", "__bool__": "", "__eq__": "other"}},
    "rounds": {"Round": {"__init__": "many, turns", "shows": "net, name", "__eq__": "other"}},
    "shares": {"Shares": {"__init__": "worths", "shows": "net, outlet", "__eq__": "other"}},
    "lags": {"Levels": {"__init__": "worths, heights", "shows": "net, outlet", "__eq__": "other"}},
    "courses": {"Course": {"__init__": "front, period", "total": "many", "balls_for": "outlet, many",
                           "rows_from": "*, start=0", "__getitem__": "ball", "__eq__": "other",
                           "shows": "net, name, standing=None"}},
    "ways": {"Ways": {"__init__": "standings, steps", "follow": "rows, number=0", "__len__": "", "__eq__": "other",
                      "shows": "net, standing=None"}},
    "alikes": {"Alike": {"__init__": "pairs", "shows": "one, other", "__bool__": "", "__eq__": "other"},
               "Told": {"__init__": "balls", "shows": "one, other", "__bool__": "", "__eq__": "other"}},
    "making": {"Made": {"__init__": "net", "shows": "shares, ways", "__eq__": "other"}},
    "books": {"Book": {"__init__": "", "__getitem__": "name", "__contains__": "name", "__len__": "", "titles": "",
                       "put": "name, net", "undo": "", "claim_alike": "one, other", "drop": "name", "trial": "",
                       "claim_share": "name, entry, outlet", "attempt": "deed"}},
    "freeing": {"Free": {"__init__": "pairs", "shows": "net, names", "__bool__": "", "__eq__": "other"},
                "Bound": {"__init__": "standing, balls", "shows": "net, names", "__bool__": "", "__eq__": "other"}},
    "evenness": {"Even": {"__init__": "least, most, low, high, standings", "shows": "net, one, other", "__bool__": "",
                          "__eq__": "other"},
                 "Uneven": {"__init__": "inlet, balls, more", "shows": "net, one, other", "__bool__": "",
                            "__eq__": "other"}},
    "goals": {"Met": {"__init__": "balls, lacks", "shows": "net, goal, standing=None", "__bool__": "", "__eq__": "other"},
              "Short": {"__init__": "outlet, most", "shows": "net, goal, standing=None", "__bool__": "",
                        "__eq__": "other"}},
    "telling": {"Telling": {"__init__": "balls, pairs, closed", "shows": "net, standings", "__eq__": "other"}},
    "rooms": {"Fits": {"__init__": "steps", "shows": "net, balls, room", "__bool__": "", "__eq__": "other"},
              "Jams": {"__init__": "counts", "shows": "net, balls, room", "__bool__": "", "__eq__": "other"}},
    "changing": {"Mend": {"__init__": "change", "shows": "net, goal", "__bool__": "", "__eq__": "other"},
                 "NoMend": {"__init__": "told", "shows": "net, goal", "__bool__": "", "__eq__": "other"}},
    "reaching": {"Reaches": {"__init__": "balls", "shows": "net, one, other, names", "__bool__": "", "__eq__": "other"},
                 "Barred": {"__init__": "weights, modulus", "shows": "net, one, other, names", "__bool__": "",
                            "__eq__": "other"}},
    "trailing": {"Keeps": {"__init__": "heights", "shows": "net, one, other, most", "__bool__": "", "__eq__": "other"},
                 "Falls": {"__init__": "inlets", "shows": "net, one, other, most", "__bool__": "", "__eq__": "other"}},
}
FUNCTIONS = {
    "settling": {"settle": "net, balls, standing=None", "played": "net, balls, order, standing=None",
                 "knots_in_turn": "net, balls, standing=None"},
    "ending": {"judge_ends": "net", "ends": "net"},
    "rounds": {"comes_back": "net, standing", "first_back": "net, standing", "many_back": "net",
               "ahead": "net, standing, name", "same_back": "net, one, other", "round_of": "net, name"},
    "shares": {"shares": "net, outlet", "share_of": "net, name, outlet", "gained": "net, name, outlet"},
    "lags": {"levels": "net, outlet", "lag": "net, outlet, one, other", "spread": "net, outlet"},
    "courses": {"course": "net, name, standing=None"},
    "ways": {"ways": "net, standing=None", "classes_of": "ways", "told_apart": "ways, one, other"},
    "alikes": {"judge_alike": "one, other"},
    "joining": {"begun_at": "net, standing", "renamed": "net, names", "joined": "one, other, links", "straight": "net"},
    "making": {"made": "shares, ways", "least_wheels": "shares, ways"},
    "nettexts": {"read_net": "text", "write_net": "net"},
    "freeing": {"judge_free": "net, names", "free_sets": "net"},
    "evenness": {"judge_even": "net, one, other"},
    "goals": {"judge_goal": "net, goal, standing=None", "just_goal": "net, goal, most, standing=None"},
    "telling": {"telling": "net, standings", "homing": "net, standings"},
    "rooms": {"judge_room": "net, balls, room", "least_room": "net, balls"},
    "changing": {"changed": "net, change", "judge_change": "net, goal", "begun_like": "net, goal"},
    "groups": {"sum_of": "net, standing", "factors": "net", "standing_with": "net, numbers",
               "many_times": "net, standing, many"},
    "reaching": {"judge_reach": "net, one, other, names", "fewest_to": "net, one, other, name", "reaching_sets": "net"},
    "tidying": {"is_tidy": "net", "tidied": "net", "tidied_standing": "net, standing", "alike_places": "net"},
    "trailing": {"judge_behind": "net, one, other, most", "least_behind": "net, one, other"},
}


def tree_of(file):
    return ast.parse((PACKAGE / f"{file}.py").read_text(encoding="utf-8"))


def arguments(function, method=False):
    told = str(inspect.signature(function))[1:-1]
    return told.removeprefix("self").removeprefix(", ") if method else told


class Interface(unittest.TestCase):
    def test_classes_and_their_own_methods(self):
        for file, classes in CLASSES.items():
            module = importlib.import_module(f"ballchutes.{file}")
            defined = {part.name: part for part in tree_of(file).body if isinstance(part, ast.ClassDef)}
            for name, methods in classes.items():
                own = [part.name for part in defined[name].body if isinstance(part, ast.FunctionDef)]
                for method, told in methods.items():
                    self.assertIn(method, own)
                    self.assertEqual(arguments(getattr(getattr(module, name), method), True), told, (name, method))

    def test_functions(self):
        for file, functions in FUNCTIONS.items():
            module = importlib.import_module(f"ballchutes.{file}")
            defined = [part.name for part in tree_of(file).body if isinstance(part, ast.FunctionDef)]
            for name, told in functions.items():
                self.assertIn(name, defined)
                self.assertEqual(arguments(getattr(module, name)), told, name)
