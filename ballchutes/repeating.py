"""Rows that are done again and again behind a front, told by as few as can be."""


def shortest_rows(front, period):
    """The shortest front and the shortest period that go on as these do."""
    period = period[:least_period(period)]
    behind = len(front)
    while behind > 0 and front[behind - 1] == period[(behind - 1 - len(front)) % len(period)]:
        behind -= 1
    turned = (behind - len(front)) % len(period)
    return front[:behind], period[turned:] + period[:turned]


def least_period(rows):
    """The length of the shortest rows that are these ones when done again and again."""
    for length in range(1, len(rows)):
        if len(rows) % length == 0 and rows == rows[:length] * (len(rows) // length):
            return length
    return len(rows)
