"""What comes out by balls that come in one by one."""

from ballchutes.checking import check_standing, knot_of
from ballchutes.playing import Play
from ballchutes.repeating import shortest_rows
from ballchutes.turning import turn_inverse


class Course:
    """The rows of balls, one by one: those of the front, then those of the period again and again."""

    def __init__(self, front, period):
        self.front = list(front)
        self.period = list(period)

    def __getitem__(self, ball):
        if ball < len(self.front):
            return self.front[ball]
        return self.period[(ball - len(self.front)) % len(self.period)]

    def __iter__(self):
        raise TypeError("a course has no end; rows_from generates its rows")

    def total(self, many):
        """The sums of the rows of the first balls, so many."""
        ahead = self.front[:many]
        whole, over = divmod(many - len(ahead), len(self.period))
        sums = [0 for _ in self.period[0]]
        for rows, times in ((ahead, 1), (self.period, whole), (self.period[:over], 1)):
            for row in rows:
                sums = [had + times * gain for had, gain in zip(sums, row)]
        return tuple(sums)

    def balls_for(self, outlet, many):
        """The least number of balls by which so many come out at the outlet of this place, or None."""
        ahead = first_with(self.front, outlet, many)
        if ahead is not None:
            return ahead
        left = many - gain_of(self.front, outlet)
        gain = gain_of(self.period, outlet)
        if gain == 0:
            return None
        # Whole periods that surely are not enough; what is left then is reached within one more.
        whole = (left - 1) // gain
        return len(self.front) + whole * len(self.period) + first_with(self.period, outlet, left - whole * gain)

    def rows_from(self, *, start=0):
        """Generates the rows from a ball on, without end."""
        ball = start
        while True:
            yield self[ball]
            ball += 1

    def shows(self, net, name, standing=None):
        """Whether this is the course of a knot or inlet, from a standing on."""
        return self == course(net, name, standing)

    def __eq__(self, other):
        return isinstance(other, Course) and self.front == other.front and self.period == other.period


def gain_of(rows, outlet):
    """How many balls come out at the outlet of this place in these rows."""
    return sum([row[outlet] for row in rows])


def first_with(rows, outlet, many):
    """How many of the first rows are needed for so many balls at an outlet; None if all are too few."""
    if many <= 0:
        return 0
    had = 0
    for place, row in enumerate(rows):
        had += row[outlet]
        if had >= many:
            return place + 1
    return None


def course(net, name, standing=None):
    """The course of the rows of balls at a knot or inlet, from a standing on (the start, if None)."""
    turn_inverse(net)
    if standing is not None:
        check_standing(net, standing)
    knot = knot_of(net, name)
    play = Play(net, {}, standing)
    rows = []
    met = {}
    place = tuple(play.standing.values())
    while place not in met:
        met[place] = len(rows)
        rows.append(next_row(play, knot))
        place = tuple(play.standing.values())
    front, period = shortest_rows(rows[:met[place]], rows[met[place]:])
    return Course(front, period)


def next_row(play, knot):
    """Lets one more ball come to a knot, and all rest; returns its row."""
    had = list(play.out.values())
    play.fall(knot, 1)
    play.rest()
    return tuple([now - then for now, then in zip(play.out.values(), had)])
