"""Tests of equations over amounts that are at least 0."""

import random
import unittest

from blockpiles.simplex import Table


def times(factors, numbers):
    """The sum of the products."""
    return sum(factor * number for factor, number in zip(factors, numbers))


class TableTest(unittest.TestCase):
    def check(self, columns, totals):
        table = Table(columns, totals)
        self.assertGreater(table.scale, 0)
        if table.is_solved():
            amounts = table.amounts()
            self.assertTrue(all(amount >= 0 for amount in amounts))
            for k, total in enumerate(totals):
                self.assertEqual(times(amounts, [column[k] for column in columns]), total * table.scale)
        else:
            factors = table.refusal()
            self.assertTrue(all(times(factors, column) <= 0 for column in columns))
            self.assertGreater(times(factors, totals), 0)
        return table.is_solved()

    def test_one_equation(self):
        self.assertTrue(self.check([[1]], [1]))
        self.assertTrue(self.check([[1]], [0]))
        self.assertTrue(self.check([[3]], [2]))
        self.assertFalse(self.check([[-1]], [1]))
        self.assertFalse(self.check([[0]], [1]))
        self.assertFalse(self.check([], [1]))
        self.assertTrue(self.check([], [0]))
        self.assertTrue(self.check([], []))

    def test_amounts_with_a_scale(self):
        table = Table([[2, 1], [1, 3]], [1, 1])
        self.assertTrue(table.is_solved())
        self.assertEqual([5 * amount for amount in table.amounts()], [2 * table.scale, table.scale])

    def test_equations_that_contradict_each_other(self):
        self.assertFalse(self.check([[1, 1], [2, 2]], [1, 2]))
        self.assertTrue(self.check([[1, 1], [2, 2]], [2, 2]))

    def test_drawn_equations(self):
        draw = random.Random(9)
        solved = 0
        for _ in range(1000):
            rows = draw.randint(1, 5)
            columns = [[draw.randint(-3, 3) for _ in range(rows)] for _ in range(draw.randint(0, 9))]
            solved += self.check(columns, [draw.choice((0, 0, 1, 2, 5)) for _ in range(rows)])
        self.assertTrue(200 < solved < 800, solved)

    def test_equations_that_are_known_to_be_solved(self):
        draw = random.Random(10)
        for _ in range(500):
            rows = draw.randint(1, 5)
            columns = [[draw.randint(-3, 3) for _ in range(rows)] for _ in range(draw.randint(1, 9))]
            amounts = [draw.choice((0, 0, 1, 4)) for _ in columns]
            totals = [times(amounts, [column[k] for column in columns]) for k in range(rows)]
            for k, total in enumerate(totals):
                if total < 0:
                    totals[k] = -total
                    for column in columns:
                        column[k] = -column[k]
            self.assertTrue(self.check(columns, totals), (columns, totals))

    def test_many_totals_of_0(self):
        # Here many rows may leave at once, and the lacks do not get smaller for long.
        draw = random.Random(11)
        for _ in range(500):
            columns = [[draw.randint(-2, 2) for _ in range(8)] for _ in range(16)]
            self.check(columns, [0] * 7 + [1])

    def test_arguments_are_not_modified(self):
        columns, totals = [[2, 1], [1, 3]], [1, 1]
        Table(columns, totals)
        self.assertEqual((columns, totals), ([[2, 1], [1, 3]], [1, 1]))


if __name__ == "__main__":
    unittest.main()
