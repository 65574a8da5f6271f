"""Lines of texts that are not of the form that is told, compared with a model that tries all ways to go on ([15])."""

import re
import unittest
from random import Random

from ballchutes.errors import BadNet, BadPiece, BadText
from ballchutes.nettexts import read_net

# One sign stands for each part of a line: w for a word, n and m for numbers up to 4 and to 12, a capital for a kept one.
KINDS = {"inlet": "I", "outlet": "O", "knot": "K", "wheel": "W", "gate": "G", "copies": "C", "use": "U", "piece": "P",
         "end": "E"}
TARGET = r"w(\.w)?"
DROP = rf"\(({TARGET}){{0,4}}\)"
FORMS = re.compile("|".join([
    "", rf"Iw:{TARGET}", "Ow", rf"Kw:({DROP}){{0,12}}/({DROP}){{1,12}}", rf"Kw:({DROP}){{1,12}}", rf"Ww:({TARGET}){{1,12}}",
    rf"Gw[nm]:{TARGET}", rf"Cwn:{TARGET}", r"Pw\(w(,w)*;(w(,w)*)?\)", rf"Uw=w\((w={TARGET}(,w={TARGET})*)?\)"]))
# What a line can end with, whatever of it is there.
LONGEST = ("Iw:w.w", "Ow", "Kw:(w.w)/(w.w)", "Kw:(w)", "Kw:/(w)", "Ww:w.w", "Gwm:w.w", "Gwn:w", "Cwn:w.w", "Pw(w,w;w,w)",
           "Pw(w;)", "Uw=w(w=w.w,w=w.w)", "Uw=w()")
ENDINGS = sorted({told[at:] for told in LONGEST for at in range(len(told) + 1)}, key=len)
PARTS = ["inlet", "outlet", "knot", "wheel", "gate", "copies", "use", "a", "b2", "x", "long56789012345678", "1", "3", "7", "12",
         "13", "0", "(", ")", ":", ";", ",", "=", "/", ".", "piece"]
STARTS = ["inlet a : b . c", "outlet a", "knot a : ( b c . d ) ( ) / ( e )", "knot a : ( b ) ( c )", "knot a : / ( b )",
          "wheel a : b c . d e", "gate a 7 : b . c", "copies a 3 : b", "piece a ( b , c ; d , e )", "piece a ( b ; )",
          "use a = b ( c = d . e , f = g )", "use a = b ( )", "knot a : " + "( ) " * 12, "wheel a : " + "b " * 12,
          "knot a : ( b c d e )"]


def kind(part):
    if part in KINDS:
        return KINDS[part]
    if part[0].isalpha():
        return "w" if len(part) <= 16 else "l"
    if part[0].isdigit():
        return "n" if 1 <= int(part) <= 4 else "m" if 5 <= int(part) <= 12 else "z"
    return part


def goes_on(kinds):
    """Whether a line can begin so."""
    return any(FORMS.fullmatch(kinds + ending) for ending in ENDINGS)


def first_wrong(parts):
    """The place of the first part that cannot stand, one behind the last one if the line ends too early, or None."""
    kinds = "".join(kind(part) for part in parts)
    for at in range(len(kinds)):
        if not goes_on(kinds[:at + 1]):
            return at
    return None if FORMS.fullmatch(kinds) else len(kinds)


def changed(parts, dice):
    parts = list(parts)
    for _ in range(dice.choice((0, 1, 1, 2))):
        at = dice.randrange(len(parts) + 1)
        deed = dice.randrange(4)
        if deed == 0:
            parts.insert(at, dice.choice(PARTS))
        elif deed == 1:
            del parts[at:at + 1]
        elif deed == 2:
            parts[at:at + 1] = [dice.choice(PARTS)]
        else:
            del parts[at:]
    return parts


class Forms(unittest.TestCase):
    def test_the_first_part_that_cannot_stand(self):
        dice, wrong = Random(5), 0
        for _ in range(6000):
            parts = changed(dice.choice(STARTS).split(), dice)
            if len(set(parts) & set("abcdefg")) < sum(part in "abcdefg" for part in parts) and "piece" in parts:
                continue
            line, columns = "", []
            for part in parts:
                line += " " * dice.randint(1, 2)
                columns.append(len(line) + 1)
                line += part
            line += dice.choice(("", "  ", " # remark"))
            place = first_wrong(parts)
            if place is None:
                # A piece is left open where there is one.
                self.assertNotEqual(self.told(line), 1, line)
            else:
                wrong += 1
                self.assertEqual(self.told(line), (columns + [len(line) + 1])[place], line)
        self.assertGreater(wrong, 2000)

    def told(self, line):
        """The column of the BadText for a line, None if there is another error or none, 1 with a further line."""
        try:
            read_net(f"inlet in: k\nknot k: ()\n{line}")
        except BadText as error:
            self.assertIn(error.line, (3, 4))
            return error.column if error.line == 3 else None
        except (BadPiece, BadNet):
            pass
        return None

    def test_blanks_may_be_left_out_between_signs(self):
        for text in STARTS:
            parts = text.split()
            if parts[0] in ("knot", "wheel", "inlet", "copies", "gate"):
                close = text
                for sign in "():;,=/.":
                    close = close.replace(f" {sign}", sign).replace(f"{sign} ", sign)
                self.assertEqual(self.told(close), self.told(text))
                self.assertIsNone(self.told(close))

    def test_any_lines_come_to_a_net_or_an_error(self):
        dice, kinds = Random(7), set()
        more = ["u", "u.a", "use u = p ( )", "use v = p ( )", "use u = q ( )", "piece p ( a ; )", "piece q ( b ; )", "end", "#",
                "inlet a : k", "inlet b : k", "knot k : ( )", "knot k : ( z )", "outlet x", "outlet k"]
        for _ in range(3000):
            lines = ["inlet in : k", "knot k : ( u . a )", "piece p ( a ; )", "inlet a : k", "knot k : ( )", "end",
                     "use u = p ( )"]
            for _ in range(dice.randint(0, 3)):
                at = dice.randrange(len(lines))
                lines[at:at + dice.randint(0, 1)] = [dice.choice(more)]
            try:
                read_net("\n".join(lines))
                kinds.add("net")
            except (BadText, BadPiece, BadNet) as error:
                kinds.add(type(error).__name__)
        self.assertEqual(sorted(kinds), ["BadNet", "BadPiece", "BadText", "net"])
