"""Tests of the naive functions ([1], [6] and [13])."""

import copy
import random
import unittest
from itertools import product

from blockpiles import naive
from blockpiles.errors import InvalidNumber, InvalidOffers, InvalidPile
from blockpiles.naive import naive_least_price, naive_tips
from blockpiles.props import all_cheapest, least_price, price_of
from blockpiles.rests import is_motion, some_rest, stands
from tests.samples import (
    ARCH, BRIDGE, LOOSE, SURE,
    drawn_offers, drawn_piles, dropped_piles, nested, odd_values, raised, row_of_blocks, useful_offers, wrong_numbers,
    wrong_piles,
)
from tests.slow import slow_is_motion

AIR = ((0, 1, 1, 1, 1), (4, 1, 1, 1, 1), (8, 1, 1, 1, 1))


def near_piles(seed, many):
    """Piles of up to two blocks not far from the place 0."""
    draw = random.Random(seed)
    found = [pile[:2] for pile in dropped_piles(many, seed)]
    for _ in range(many):
        low = (draw.randint(-3, 1), draw.randint(0, 1), draw.randint(1, 3), 1, draw.randint(1, 9))
        found.append((low, (draw.randint(-3, 2), 1 + low[1], draw.randint(1, 3), 1, draw.randint(1, 9))))
    return found


def slow_tips(pile, most):
    """The first motion with such integers, or None, by going through all of them in any order."""
    span = range(most, -most - 1, -1)
    motions = [tuple(zip(numbers[::2], numbers[1::2])) for numbers in product(span, repeat=2 * len(pile))]
    return min([motion for motion in motions if slow_is_motion(pile, motion)], default=None)


class NaiveTipsTest(unittest.TestCase):
    def test_example(self):
        self.assertIsNone(naive_tips(SURE, 2))

    def test_more_of_the_example(self):
        self.assertEqual([naive_tips(LOOSE, most) for most in range(5)], [None] * 4 + [((0, 0), (-4, 1))])
        self.assertEqual([naive_tips(SURE, most) for most in range(5)], [None] * 5)

    def test_without_blocks(self):
        for most in range(5):
            self.assertIsNone(naive_tips((), most))

    def test_one_block(self):
        # Twice what its middle sinks by is 2 * a + b.
        found = [naive_tips(AIR[:1], most) for most in range(5)]
        self.assertEqual(found, [None, ((0, 1),), ((0, 1),), ((-1, 3),), ((-1, 3),)])
        for most in range(5):
            self.assertIsNone(naive_tips(SURE[:1], most))

    def test_most_0_and_4_and_one_beyond_them(self):
        for pile in ((), AIR[:1], AIR[:2], SURE, LOOSE):
            self.assertIsNone(naive_tips(pile, 0))
            self.assertIsNone(raised(naive_tips, pile, 4))
            for most in (-1, 5):
                self.assertIs(raised(naive_tips, pile, most), InvalidNumber)

    def test_0_1_2_and_3_blocks(self):
        for many in range(3):
            self.assertIsNone(raised(naive_tips, AIR[:many], 1))
        for pile in (AIR, BRIDGE, ARCH, row_of_blocks(6), row_of_blocks(3)):
            for most in (0, 1, 4, 5, None):
                self.assertIs(raised(naive_tips, pile, most), InvalidNumber)

    def test_first_of_all(self):
        found = 0
        for pile in near_piles(161, 25):
            for most in (1, 2):
                told = naive_tips(pile, most)
                self.assertEqual(told, slow_tips(pile, most), (pile, most))
                found += told is not None
        self.assertGreater(found, 15)
        for pile in near_piles(162, 3):
            self.assertEqual(naive_tips(pile, 3), slow_tips(pile, 3), pile)

    def test_against_the_others(self):
        found = 0
        for pile in near_piles(163, 60):
            told = naive_tips(pile, 4)
            if told is None:
                continue
            found += 1
            self.assertIs(type(told), tuple)
            self.assertTrue(all(type(pair) is tuple for pair in told))
            self.assertIs(is_motion(pile, told), True)
            self.assertIs(stands(pile), False)
            self.assertTrue(all(abs(number) <= 4 for pair in told for number in pair))
        self.assertGreater(found, 20)

    def test_none_for_a_pile_that_stands(self):
        for pile in near_piles(164, 40):
            if stands(pile):
                self.assertIsNone(naive_tips(pile, 4), (pile, some_rest(pile)))

    def test_with_greater_integers_no_later_motion(self):
        for pile in near_piles(165, 20):
            told = [naive_tips(pile, most) for most in range(4)]
            for less, more in zip(told, told[1:]):
                self.assertTrue(less is None or more <= less, (pile, told))


class NaiveLeastPriceTest(unittest.TestCase):
    def test_example(self):
        self.assertEqual(naive_least_price(LOOSE, (((1, 7), 2),)), 2)

    def test_edges(self):
        self.assertEqual(naive_least_price((), ()), 0)
        self.assertEqual(naive_least_price(SURE, ()), 0)
        self.assertIsNone(naive_least_price(LOOSE, ()))
        self.assertIsNone(naive_least_price(LOOSE, (((1, 3), 1), ((1, 4), 1))))
        self.assertEqual(naive_least_price(LOOSE, (((1, 5), 9), ((1, 6), 9))), 9)
        pile = tuple((3 * k, 5, 2, 1, 1) for k in range(6))
        offers = tuple(((k, 3 * k + 1), 9) for k in range(6))
        self.assertEqual(naive_least_price(pile, offers), 54)
        self.assertIsNone(naive_least_price(pile, offers[:5]))

    def test_the_same_as_least_price(self):
        draw = random.Random(166)
        none = 0
        for pile in drawn_piles(50, 167) + dropped_piles(50, 168):
            make = drawn_offers if stands(pile) else useful_offers
            offers = make(draw, pile, draw.choice((2, 3, 4, 5)))
            told = naive_least_price(pile, offers)
            self.assertEqual(told, least_price(pile, offers), (pile, offers))
            none += told is None
            for cure in all_cheapest(pile, offers):
                self.assertEqual(price_of(pile, offers, cure), told)
        self.assertTrue(5 < none < 95, none)


class WrongArgumentsTest(unittest.TestCase):
    def test_wrong_piles(self):
        for value in wrong_piles():
            for most in (0, 5, None):
                self.assertIs(raised(naive_tips, value, most), InvalidPile, value)
            for offers in ((), None, (((1, 7), 2),)):
                self.assertIs(raised(naive_least_price, value, offers), InvalidPile, value)

    def test_wrong_most(self):
        for value in wrong_numbers() + [-1, 5, (), nested(30), nested(30, list)]:
            for pile in ((), SURE, LOOSE):
                self.assertIs(raised(naive_tips, pile, value), InvalidNumber, value)

    def test_wrong_offers(self):
        wrong = odd_values() + [0, [((1, 7), 2)], (((1, 7), 0),), (((1, 7), 10),), (((1, 8), 1),), (((1, 7), True),)]
        wrong += [((1, 7), 2), (((1, 7), 1), ((1, 7), 2)), (((1, 7), 1), ((1, 6), 1)), nested(30), nested(30, list)]
        wrong += [tuple(((0, k), 1) for k in range(5)) + (((1, 3), 1), ((1, 4), 1))]
        for value in wrong:
            self.assertIs(raised(naive_least_price, LOOSE, value), InvalidOffers, value)

    def test_not_modified(self):
        pile, offers = [list(block) for block in LOOSE], [[[1, 7], 2]]
        before = copy.deepcopy((pile, offers))
        self.assertIs(raised(naive_tips, pile, [1]), InvalidPile)
        self.assertIs(raised(naive_least_price, pile, offers), InvalidPile)
        self.assertIs(raised(naive_least_price, LOOSE, offers), InvalidOffers)
        self.assertEqual((pile, offers), before)


class InterfaceTest(unittest.TestCase):
    def test_defined_in_their_file(self):
        for name in ("naive_tips", "naive_least_price"):
            self.assertEqual(getattr(naive, name).__module__, "blockpiles.naive")

    def test_arguments_by_name(self):
        self.assertIsNone(naive_tips(pile=SURE, most=2))
        self.assertEqual(naive_least_price(pile=LOOSE, offers=(((1, 7), 2),)), 2)


if __name__ == "__main__":
    unittest.main()
