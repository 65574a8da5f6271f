"""The lines of texts that tell nets: their words, numbers and signs, and what each line tells.

A target is a tuple of one word, or of two: that of a use, and that of an inlet of the piece it uses.
"""

from ballchutes.errors import BadText
from ballchutes.nets import LETTERS, MOST_DROPS, MOST_SIGNS, MOST_TARGETS

FIGURES = "0123456789"
MARKS = "():;,=/."
KEPT = ("inlet", "outlet", "knot", "wheel", "gate", "copies", "piece", "end", "use")


class Inlet:
    """A line that tells where an inlet leads."""

    def __init__(self, line, name, target):
        self.line = line
        self.name = name
        self.target = target


class Outlet:
    """A line that tells an outlet."""

    def __init__(self, line, name):
        self.line = line
        self.name = name


class Knot:
    """A line that tells a knot, of whatever kind, with its front and its turn."""

    def __init__(self, line, name, front, turn):
        self.line = line
        self.name = name
        self.front = front
        self.turn = turn


class Use:
    """A line that uses a piece; its links are pairs of an outlet of the piece and a target."""

    def __init__(self, line, name, piece, links):
        self.line = line
        self.name = name
        self.piece = piece
        self.links = links


class Piece:
    """A piece: the lines of its beginning and its end, its inlets and outlets, and what the lines between tell."""

    def __init__(self, line, name, inlets, outlets):
        self.line = line
        self.name = name
        self.inlets = inlets
        self.outlets = outlets
        self.body = []
        self.last = None


def parts_of(text, line):
    """The words, numbers and signs of a line, each with its column; BadText for the first sign that is in none."""
    told = text.partition("#")[0]
    parts = []
    at = 0
    while at < len(told):
        length = part_length(told, at)
        if length > 0:
            parts.append((told[at:at + length], at + 1))
        elif told[at] != " ":
            raise BadText(line, at + 1)
        at += max(1, length)
    return parts


def part_length(text, at):
    """How long the word, number or sign that begins here is, 0 if none does."""
    if text[at] in MARKS:
        return 1
    signs = LETTERS + FIGURES if text[at] in LETTERS else FIGURES
    behind = at
    while behind < len(text) and text[behind] in signs:
        behind += 1
    # Figures with a zero in front are no number.
    if text[at] == "0" and behind > at + 1:
        return 0
    return behind - at


class Reader:
    """Reads a line, part by part; BadText if the next part cannot stand, or if there is none."""

    def __init__(self, text, line):
        self.line = line
        self.parts = parts_of(text, line)
        self.behind = len(text) + 1
        self.at = 0

    def part(self):
        """The next word, number or sign, which is not taken; empty at the end."""
        return self.parts[self.at][0] if self.at < len(self.parts) else ""

    def refuse(self):
        """Raises BadText, as the next part cannot stand."""
        column = self.parts[self.at][1] if self.at < len(self.parts) else self.behind
        raise BadText(self.line, column)

    def take(self, fits):
        """Takes the next part, if it fits."""
        if not fits:
            self.refuse()
        self.at += 1
        return self.parts[self.at - 1][0]

    def take_mark(self, mark):
        """Takes this sign, or this word that is kept."""
        return self.take(self.part() == mark)

    def take_word(self, others=()):
        """Takes a word that is none of these others."""
        part = self.part()
        fits = part[:1] in list(LETTERS) and len(part) <= MOST_SIGNS
        return self.take(fits and part not in KEPT and part not in others)

    def take_words(self):
        """Takes words with commas between them, none of them twice."""
        found = [self.take_word()]
        while self.part() == ",":
            self.take_mark(",")
            found.append(self.take_word(found))
        return found

    def take_number(self, most):
        """Takes a number from 1 to this one, which has at most two figures."""
        part = self.part()
        return int(self.take(part.isdigit() and len(part) <= 2 and 1 <= int(part) <= most))

    def take_target(self):
        """Takes a target."""
        word = self.take_word()
        if self.part() != ".":
            return (word,)
        self.take_mark(".")
        return word, self.take_word()

    def take_targets(self, most):
        """Takes targets, at most so many."""
        found = []
        while self.part()[:1] in list(LETTERS) and len(found) < most:
            found.append(self.take_target())
        return tuple(found)

    def take_drops(self):
        """Takes drops in brackets, at most as many as a row has."""
        found = []
        while self.part() == "(" and len(found) < MOST_DROPS:
            self.take_mark("(")
            found.append(self.take_targets(MOST_TARGETS))
            self.take_mark(")")
        return tuple(found)

    def take_end(self):
        """Takes nothing, as nothing may follow."""
        if self.part() != "":
            self.refuse()


def read_inlet(reader):
    """What an inlet's line tells."""
    name = reader.take_word()
    reader.take_mark(":")
    return Inlet(reader.line, name, reader.take_target())


def read_outlet(reader):
    """What an outlet's line tells."""
    return Outlet(reader.line, reader.take_word())


def read_knot(reader):
    """What a knot's line tells, with its rows."""
    name = reader.take_word()
    reader.take_mark(":")
    front, turn = (), reader.take_drops()
    if reader.part() == "/":
        reader.take_mark("/")
        front, turn = turn, reader.take_drops()
    if len(turn) == 0:
        reader.refuse()
    return Knot(reader.line, name, front, turn)


def read_wheel(reader):
    """What a wheel's line tells, whose turn lets each ball fall to a single target."""
    name = reader.take_word()
    reader.take_mark(":")
    targets = reader.take_targets(MOST_DROPS)
    if len(targets) == 0:
        reader.refuse()
    return Knot(reader.line, name, (), tuple([(target,) for target in targets]))


def read_gate(reader):
    """What a gate's line tells, which lets just the last ball of its turn fall."""
    name = reader.take_word()
    many = reader.take_number(MOST_DROPS)
    reader.take_mark(":")
    return Knot(reader.line, name, (), ((),) * (many - 1) + ((reader.take_target(),),))


def read_copies(reader):
    """What a line with copies tells, where several balls fall for each one."""
    name = reader.take_word()
    many = reader.take_number(MOST_TARGETS)
    reader.take_mark(":")
    return Knot(reader.line, name, (), ((reader.take_target(),) * many,))


def read_use(reader):
    """What a use's line tells."""
    name = reader.take_word()
    reader.take_mark("=")
    piece = reader.take_word()
    reader.take_mark("(")
    links = []
    if reader.part() != ")":
        links.append(read_link(reader))
    while reader.part() == ",":
        reader.take_mark(",")
        links.append(read_link(reader))
    reader.take_mark(")")
    return Use(reader.line, name, piece, links)


def read_link(reader):
    """An outlet of a piece, and the target that a use tells for it."""
    outlet = reader.take_word()
    reader.take_mark("=")
    return outlet, reader.take_target()


def read_piece(reader):
    """What the line tells with which a piece begins."""
    name = reader.take_word()
    reader.take_mark("(")
    inlets = reader.take_words()
    reader.take_mark(";")
    outlets = [] if reader.part() == ")" else reader.take_words()
    reader.take_mark(")")
    return Piece(reader.line, name, inlets, outlets)


READERS = {"inlet": read_inlet, "outlet": read_outlet, "knot": read_knot, "wheel": read_wheel, "gate": read_gate,
           "copies": read_copies, "use": read_use}


def read_lines(text):
    """What the lines of a text outside of pieces tell, and its pieces; BadText for the first line of another form."""
    body, pieces, inside = [], [], None
    lines = text.split("\n")
    for at, told in enumerate(lines):
        reader = Reader(told, at + 1)
        word = reader.part()
        if word in READERS:
            read = READERS[reader.take_mark(word)]
            found = body if inside is None else inside.body
            found.append(read(reader))
        elif word == "piece" and inside is None:
            reader.take_mark(word)
            inside = read_piece(reader)
            pieces.append(inside)
        elif word == "end" and inside is not None:
            reader.take_mark(word)
            inside.last = reader.line
            inside = None
        # Otherwise this is a line without anything, or one that begins with what cannot stand.
        reader.take_end()
    if inside is not None:
        raise BadText(len(lines) + 1, 1)
    return body, pieces
