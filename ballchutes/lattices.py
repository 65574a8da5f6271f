"""Rows of integers, and what can be a sum of them, each row any number of times, as integers."""


class Diagonal:
    """Rows made diagonal: rows are added to rows and columns to columns, and swapped, until nothing but 0 is left
    beside the `factors`, one in each column, each of which divides the next one.

    The rows must leave no column without a factor. `left` has for each factor how often each of the told rows is
    in its row then, and `right` how often each of the told columns is in its column.
    """

    def __init__(self, rows):
        self.size = len(rows[0])
        # Behind each row stands of which of the told rows it came about; `columns` tells it of the columns.
        self.rows = [list(row) + unit_row(at, len(rows)) for at, row in enumerate(rows)]
        self.columns = [unit_row(at, self.size) for at in range(self.size)]
        for at in range(self.size):
            self.make_factor(at)
        self.factors = [self.rows[at][at] for at in range(self.size)]
        self.left = [self.rows[at][self.size:] for at in range(self.size)]
        self.right = [[row[at] for row in self.columns] for at in range(self.size)]

    def make_factor(self, at):
        """Makes a factor stand at this place of the diagonal, alone in its row and column."""
        while True:
            self.bring_least(at)
            self.reduce_rows(at)
            self.reduce_columns(at)
            if self.is_alone(at):
                row = self.row_not_divided(at)
                if row is None:
                    return
                self.rows[at] = with_times(self.rows[at], self.rows[row], 1)

    def bring_least(self, at):
        """Brings what is least but 0, whatever its sign, of all that is left to this place, with a sign above 0."""
        least = None
        for row in range(at, len(self.rows)):
            for column in range(at, self.size):
                size = abs(self.rows[row][column])
                # What stands at this place already stays if nothing is less: otherwise this might have no end.
                if size > 0 and (least is None or size < least[0]):
                    least = (size, row, column)
        _, row, column = least
        self.rows[at], self.rows[row] = self.rows[row], self.rows[at]
        for each in [*self.rows, *self.columns]:
            each[at], each[column] = each[column], each[at]
        if self.rows[at][at] < 0:
            self.rows[at] = [-number for number in self.rows[at]]

    def reduce_rows(self, at):
        """Takes the row of this place off those below, so that less than its number is left in its column."""
        lead = self.rows[at]
        for row in range(at + 1, len(self.rows)):
            self.rows[row] = with_times(self.rows[row], lead, -(self.rows[row][at] // lead[at]))

    def reduce_columns(self, at):
        """Takes the column of this place off those behind, so that less than its number is left in its row."""
        lead = self.rows[at]
        for column in range(at + 1, self.size):
            times = lead[column] // lead[at]
            for each in [*self.rows, *self.columns]:
                each[column] -= times * each[at]

    def is_alone(self, at):
        """Whether nothing but 0 is left in the row behind this place, and in the column below."""
        behind = self.rows[at][at + 1:self.size]
        return not any(behind) and not any([row[at] for row in self.rows[at + 1:]])

    def row_not_divided(self, at):
        """The first row below with a number that is not divided by the one at this place, None if there is none."""
        factor = self.rows[at][at]
        for row in range(at + 1, len(self.rows)):
            if any([number % factor != 0 for number in self.rows[row][at:self.size]]):
                return row
        return None

    def first_undivided(self, numbers):
        """The place of the first factor that does not divide what these numbers weigh by its column, or None.

        The numbers, one for each column, are a sum of the told rows just if there is none.
        """
        for place, factor in enumerate(self.factors):
            if dot(numbers, self.right[place]) % factor != 0:
                return place
        return None

    def times_for(self, numbers):
        """How often each of the told rows is in a sum of them that is these numbers, if there is one."""
        times = [0] * len(self.rows)
        for place, factor in enumerate(self.factors):
            times = with_times(times, self.left[place], dot(numbers, self.right[place]) // factor)
        return times


def unit_row(at, size):
    """A row of this size with 1 at a place, and 0 elsewhere."""
    return [1 if place == at else 0 for place in range(size)]


def with_times(row, other, times):
    """A row with another one added so many times."""
    return [one + times * two for one, two in zip(row, other)]


def dot(row, column):
    """The sum of the products of two rows, place by place."""
    return sum([one * other for one, other in zip(row, column)])
