"""Rows of integers made diagonal, on which groups and reaching stand ([23], [24])."""

import unittest
from random import Random

from ballchutes.lattices import Diagonal


def product_of(left, right):
    return [[sum(one * other for one, other in zip(row, column)) for column in zip(*right)] for row in left]


def determinant(rows):
    if not rows:
        return 1
    return sum((-1) ** at * rows[0][at] * determinant([row[:at] + row[at + 1:] for row in rows[1:]])
               for at in range(len(rows)))


def full(dice, many, size):
    """Rows that leave no column without a factor."""
    while True:
        rows = [[dice.choice((0, 0, 0, 1, -1, 2, 3, -4, 6, 12)) for _ in range(size)] for _ in range(many)]
        if determinant(product_of([list(column) for column in zip(*rows)], rows)) != 0:
            return rows


class Diagonals(unittest.TestCase):
    def test_one_by_one(self):
        for seed in range(300):
            dice = Random(seed)
            size = dice.randint(1, 4)
            rows = full(dice, size + dice.randint(0, 3), size)
            found = Diagonal(rows)
            factors = found.factors
            self.assertTrue(all(factor >= 1 for factor in factors))
            self.assertTrue(all(other % one == 0 for one, other in zip(factors, factors[1:])))
            columns = [list(row) for row in zip(*found.right)]
            self.assertEqual(product_of(product_of(found.left, rows), columns),
                             [[factor if at == place else 0 for at in range(size)] for place, factor in enumerate(factors)])
            self.assertEqual(abs(determinant(columns)), 1)

    def test_sums_of_rows(self):
        for seed in range(200):
            dice = Random(seed)
            size = dice.randint(1, 4)
            rows = full(dice, size + dice.randint(0, 2), size)
            found = Diagonal(rows)
            numbers = product_of([[dice.randint(-9, 9) for _ in rows]], rows)[0]
            self.assertIsNone(found.first_undivided(numbers))
            self.assertEqual(product_of([found.times_for(numbers)], rows)[0], numbers)
            other = [dice.randint(-20, 20) for _ in range(size)]
            place = found.first_undivided(other)
            if place is not None:
                weights, modulus = found.right[place], found.factors[place]
                self.assertNotEqual(product_of([weights], [[part] for part in other])[0][0] % modulus, 0)
                for row in rows:
                    self.assertEqual(product_of([weights], [[part] for part in row])[0][0] % modulus, 0)
            else:
                self.assertEqual(product_of([found.times_for(other)], rows)[0], other)
