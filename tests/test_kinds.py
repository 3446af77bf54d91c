"""Tests of integers and fractions as arguments ([1] and [2])."""

import unittest
from fractions import Fraction

from blockpiles.kinds import is_ascending, is_fraction, is_share, is_share_pair, is_tuple, is_whole, reduced
from tests.samples import odd_values

LIMIT = 10 ** 12


class WholeTest(unittest.TestCase):
    def test_bounds(self):
        for value in range(-5, 6):
            self.assertIs(is_whole(value, -2, 3), -2 <= value <= 3)

    def test_other_objects(self):
        for value in odd_values() + ["1", (1,), [1], Fraction(1)]:
            self.assertIs(is_whole(value, -1, 1), False, value)


class TupleTest(unittest.TestCase):
    def test_lengths(self):
        for many in range(4):
            self.assertIs(is_tuple((1, 2), many), many == 2)

    def test_other_objects(self):
        for value in ([1, 2], "12", {1: 1, 2: 2}, None, 2, range(2)):
            self.assertIs(is_tuple(value, 2), False, value)


class AscendingTest(unittest.TestCase):
    def test_without_repetitions(self):
        for values in ((), (1,), (1, 2), [(0, 1), (1, 0)], [(), (0,)], ((0, 1), (0, 1, 0), (1,))):
            self.assertIs(is_ascending(values), True, values)
        for values in ((1, 1), (2, 1), (1, 3, 2), (1, 2, 2), (1, 1, 2), [(0,), ()], [(0, 1), (0, 0)]):
            self.assertIs(is_ascending(values), False, values)


class FractionTest(unittest.TestCase):
    def test_lowest_terms(self):
        for top in range(-12, 13):
            for bottom in range(-12, 13):
                lowest = bottom > 0 and Fraction(top, bottom).denominator == bottom
                self.assertIs(is_fraction((top, bottom)), lowest, (top, bottom))

    def test_0_as_0_and_1(self):
        self.assertIs(is_fraction((0, 1)), True)
        self.assertIs(is_share((0, 1)), True)
        self.assertIs(is_fraction((0, 2)), False)
        self.assertIs(is_fraction((0, 0)), False)

    def test_bounds(self):
        for top in (-LIMIT, LIMIT):
            self.assertIs(is_fraction((top, 1)), True)
            self.assertIs(is_fraction((top, LIMIT - 1)), True)
        for value in ((-LIMIT - 1, 1), (LIMIT + 1, 1), (1, LIMIT + 1), (-1, LIMIT + 1), (1, -LIMIT)):
            self.assertIs(is_fraction(value), False, value)
        self.assertIs(is_fraction((1, LIMIT)), True)
        self.assertIs(is_fraction((-1, LIMIT)), True)

    def test_other_objects(self):
        for value in odd_values() + [0, 1, (1,), (1, 1, 1), [1, 1], Fraction(1)]:
            self.assertIs(is_fraction(value), False, value)
        for value in odd_values():
            self.assertIs(is_fraction((value, 1)), False, value)
            self.assertIs(is_fraction((1, value)), False, value)

    def test_shares_are_at_least_0(self):
        self.assertIs(is_share((1, 3)), True)
        self.assertIs(is_share((-1, 3)), False)
        self.assertIs(is_share_pair(((1, 3), (0, 1))), True)
        self.assertIs(is_share_pair(((1, 3), (-1, 1))), False)
        self.assertIs(is_share_pair(((-1, 3), (0, 1))), False)
        self.assertIs(is_share_pair(((1, 3),)), False)

    def test_reduced(self):
        for top in range(-12, 13):
            for bottom in range(1, 13):
                number = Fraction(top, bottom)
                self.assertEqual(reduced(top, bottom), (number.numerator, number.denominator))


if __name__ == "__main__":
    unittest.main()
