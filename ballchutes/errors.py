"""The errors of the package, one class for each kind of failure."""


class ChuteError(ValueError):
    """What all errors of the package are."""


class BadNet(ChuteError):
    """What is told is no net; `name` tells where, None if no one name does."""

    def __init__(self, name):
        super().__init__(f"this is no net: {name!r}")
        self.name = name


class BadStanding(ChuteError):
    """What is told is no standing of the net."""


class BadBalls(ChuteError):
    """What is told are no numbers of balls."""


class BadOrder(ChuteError):
    """What is told is no order; `place` is that of its first wrong step, None if it has no steps at all."""

    def __init__(self, place):
        super().__init__(f"this is no order for these balls, from step {place!r} on")
        self.place = place


class NeverEnds(ChuteError):
    """The net does not end."""


class NoPart(ChuteError):
    """There is no such part; `name` is what was asked for."""

    def __init__(self, name):
        super().__init__(f"there is no such part: {name!r}")
        self.name = name


class NotBack(ChuteError):
    """The standing does not come back."""


class TooLarge(ChuteError):
    """What is asked is beyond the bounds for asking."""


class Unlike(ChuteError):
    """Two nets differ in `what`, so that they cannot be compared."""

    def __init__(self, what):
        super().__init__(f"the nets do not have the same {what}")
        self.what = what


class BadShares(ChuteError):
    """What is told are no shares."""


class BadText(ChuteError):
    """The text is not of the form that is told, from `line` and `column` on."""

    def __init__(self, line, column):
        super().__init__(f"line {line}, column {column} cannot stand")
        self.line = line
        self.column = column


class BadPiece(ChuteError):
    """What the text tells at `line` is wrong; `why` is the word for it."""

    def __init__(self, line, why):
        super().__init__(f"line {line} is wrong: {why}")
        self.line = line
        self.why = why


class NothingDone(ChuteError):
    """There is nothing that can be undone."""


class BadGoal(ChuteError):
    """What is told is no goal for outlets of the net."""


class BadNumber(ChuteError):
    """What is told is none of the numbers that can be asked for, or not so many as can be."""


class BadChange(ChuteError):
    """What is told is no change of the net."""
