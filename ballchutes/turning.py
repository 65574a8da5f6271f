"""Whole turns of knots: what they take and what falls, as one matrix.

Row and column of a knot are its place among the knots, ascending. The row of a knot has the length of its
turn in its own column, and in each column takes off the balls that fall to that knot in the turn.
"""

from ballchutes.checking import check_net
from ballchutes.errors import NeverEnds
from ballchutes.lattices import dot


def falls_in_turn(net, knot, target):
    """How many balls fall to a target in a whole turn of a knot."""
    return sum([drop.count(target) for drop in net.knots[knot][1]])


def turn_matrix(net):
    """What each knot, in a whole turn, takes at each knot more than it lets fall there."""
    rows = []
    for knot, (_, turn) in net.knots.items():
        row = [-falls_in_turn(net, knot, target) for target in net.knots]
        row[len(rows)] += len(turn)
        rows.append(row)
    return rows


def eliminated(matrix):
    """The determinant of a turn matrix, and its adjugate, if all its leading minors are above 0.

    Otherwise 0 and numbers from 0, not all 0: added so often, its rows come to nothing above 0.
    """
    size = len(matrix)
    rows = [matrix[k] + [1 if at == k else 0 for at in range(size)] for k in range(size)]
    last = 1
    for k in range(size):
        lead = rows[k]
        if lead[k] <= 0:
            # Right of the matrix stands by which numbers of rows this one came about. They are not
            # below 0, as the minors ahead are above 0 and nothing off the diagonal is.
            return 0, lead[size:]
        rows = [lead if at == k else cleared(row, lead, k, last) for at, row in enumerate(rows)]
        last = lead[k]
    return last, [row[size:] for row in rows]


def cleared(row, lead, column, last):
    """A row with 0 in a column, by means of the lead row; without fractions, as the last lead divides it."""
    factor, head = row[column], lead[column]
    return [(head * one - factor * other) // last for one, other in zip(row, lead)]


def turn_inverse(net):
    """The determinant of the turn matrix of a net that ends, and its adjugate; BadNet, NeverEnds."""
    check_net(net)
    determinant, rows = eliminated(turn_matrix(net))
    if determinant == 0:
        raise NeverEnds("the net does not end")
    return determinant, rows


def left_by_turns(inverse, numbers):
    """What tells numbers, one for each knot, up to whole turns: as many numbers, all 0 just for sums of whole turns.

    Those of a sum are the sums of those of its parts, modulo the determinant, which is told first in the inverse.
    """
    determinant, rows = inverse
    return [dot(numbers, column) % determinant for column in zip(*rows)]
