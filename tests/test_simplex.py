"""Tests of equations over amounts that are at least 0."""

import random
import unittest
from fractions import Fraction

from blockpiles.simplex import Table
from tests.slow import extent


def times(factors, numbers):
    """The sum of the products."""
    return sum(factor * number for factor, number in zip(factors, numbers))


class TableTest(unittest.TestCase):
    def check(self, columns, totals):
        table = Table(columns, totals)
        self.assertGreater(table.scale, 0)
        if table.is_solved():
            amounts = table.amounts()
            self.assertTrue(all(amount >= 0 for amount in amounts))
            for k, total in enumerate(totals):
                self.assertEqual(times(amounts, [column[k] for column in columns]), total * table.scale)
        else:
            factors = table.refusal()
            self.assertTrue(all(times(factors, column) <= 0 for column in columns))
            self.assertGreater(times(factors, totals), 0)
        return table.is_solved()

    def test_one_equation(self):
        self.assertTrue(self.check([[1]], [1]))
        self.assertTrue(self.check([[1]], [0]))
        self.assertTrue(self.check([[3]], [2]))
        self.assertFalse(self.check([[-1]], [1]))
        self.assertFalse(self.check([[0]], [1]))
        self.assertFalse(self.check([], [1]))
        self.assertTrue(self.check([], [0]))
        self.assertTrue(self.check([], []))

    def test_amounts_with_a_scale(self):
        table = Table([[2, 1], [1, 3]], [1, 1])
        self.assertTrue(table.is_solved())
        self.assertEqual([5 * amount for amount in table.amounts()], [2 * table.scale, table.scale])

    def test_equations_that_contradict_each_other(self):
        self.assertFalse(self.check([[1, 1], [2, 2]], [1, 2]))
        self.assertTrue(self.check([[1, 1], [2, 2]], [2, 2]))

    def test_drawn_equations(self):
        draw = random.Random(9)
        solved = 0
        for _ in range(1000):
            rows = draw.randint(1, 5)
            columns = [[draw.randint(-3, 3) for _ in range(rows)] for _ in range(draw.randint(0, 9))]
            solved += self.check(columns, [draw.choice((0, 0, 1, 2, 5)) for _ in range(rows)])
        self.assertTrue(200 < solved < 800, solved)

    def test_equations_that_are_known_to_be_solved(self):
        draw = random.Random(10)
        for _ in range(500):
            rows = draw.randint(1, 5)
            columns = [[draw.randint(-3, 3) for _ in range(rows)] for _ in range(draw.randint(1, 9))]
            amounts = [draw.choice((0, 0, 1, 4)) for _ in columns]
            totals = [times(amounts, [column[k] for column in columns]) for k in range(rows)]
            for k, total in enumerate(totals):
                if total < 0:
                    totals[k] = -total
                    for column in columns:
                        column[k] = -column[k]
            self.assertTrue(self.check(columns, totals), (columns, totals))

    def test_many_totals_of_0(self):
        # Here many rows may leave at once, and the lacks do not get smaller for long.
        draw = random.Random(11)
        for _ in range(500):
            columns = [[draw.randint(-2, 2) for _ in range(8)] for _ in range(16)]
            self.check(columns, [0] * 7 + [1])

    def test_least_of_one_equation(self):
        table = Table([[1], [2]], [6])
        self.assertEqual(self.least_of(table, [1, 1]), 3)
        self.assertEqual(self.least_of(table, [-1, -1]), -6)
        self.assertEqual(self.least_of(table, [0, 0]), 0)
        self.assertEqual(self.least_of(table, [2, 5]), 12)

    def test_no_least_sum(self):
        table = Table([[1], [-1]], [6])
        self.assertIsNone(table.least([-1, 0]))
        self.assertIsNone(table.least([0, -1]))
        self.assertIsNone(table.least([1, -2]))
        # The table goes on to be of use.
        self.assertTrue(table.is_solved())
        self.assertEqual(self.least_of(table, [1, 1]), 6)
        self.assertEqual(self.least_of(table, [0, 1]), 0)

    def test_least_without_equations_or_columns(self):
        self.assertEqual(self.least_of(Table([], []), []), 0)
        self.assertEqual(self.least_of(Table([], [0, 0]), []), 0)
        self.assertEqual(self.least_of(Table([[], []], []), [1, 2]), 0)
        self.assertIsNone(Table([[], []], []).least([1, -2]))

    def test_equations_that_say_the_same(self):
        table = Table([[1, 2], [1, 2], [-1, -2]], [3, 6])
        self.assertEqual(self.least_of(table, [1, 2, 0]), 3)
        self.assertEqual(self.least_of(table, [2, 1, 0]), 3)
        self.assertIsNone(table.least([1, 1, -2]))

    def test_a_lack_of_0_in_a_row_with_signs_turned(self):
        # The second equation holds from the start, with all amounts below 0 in its row.
        table = Table([[1, 0], [0, -1], [0, -2]], [1, 0])
        self.assertEqual(self.least_of(table, [1, -1, -1]), 1)
        self.assertTrue(table.is_solved())

    def least_of(self, table, prices):
        top = table.least(prices)
        self.assertGreater(table.scale, 0)
        self.assertEqual(times(prices, table.amounts()), top)
        self.assertTrue(all(amount >= 0 for amount in table.amounts()))
        return Fraction(top, table.scale)

    def test_least_sums_of_drawn_equations(self):
        draw = random.Random(12)
        found = [0, 0]
        for _ in range(1500):
            many = draw.randint(1, 4)
            columns = [[draw.randint(-3, 3) for _ in range(many)] for _ in range(draw.randint(1, 6))]
            totals = [draw.choice((0, 0, 1, 2, 5)) for _ in range(many)]
            table = Table(columns, totals)
            if not table.is_solved():
                continue
            for _ in range(2):
                prices = [draw.randint(0, 4) for _ in columns]
                rows = [[column[k] for column in columns] + [total] for k, total in enumerate(totals)]
                least, greatest = extent(rows, prices)
                self.assertEqual(self.least_of(table, prices), least, (columns, totals, prices))
                found[greatest is None] += 1
                if greatest is None:
                    self.assertIsNone(table.least([-price for price in prices]))
                else:
                    self.assertEqual(self.least_of(table, [-price for price in prices]), -greatest)
        self.assertGreater(min(found), 200)

    def test_arguments_are_not_modified(self):
        columns, totals = [[2, 1], [1, 3]], [1, 1]
        Table(columns, totals)
        self.assertEqual((columns, totals), ([[2, 1], [1, 3]], [1, 1]))


if __name__ == "__main__":
    unittest.main()
