"""Tests of the weights with which a pile stands ([1], [2] and [8])."""

import copy
import random
import unittest
from fractions import Fraction
from itertools import product
from math import gcd

from blockpiles import weights
from blockpiles.errors import InvalidBounds, InvalidNumber, InvalidPile
from blockpiles.piles import contacts
from blockpiles.rests import stands
from blockpiles.weights import stands_always, tipping_weights, weight_span
from tests.samples import (
    ARCH, BRIDGE, COUNTERWEIGHT, LOOSE, SEESAW, SURE,
    changed, drawn_piles, dropped_piles, nested, odd_values, pair_of, raised, row_of_blocks, wrong_numbers, wrong_piles,
)
from tests.slow import slow_span, slow_stands, weights_of

PILES = dropped_piles(150, 31) + drawn_piles(150, 32)


def drawn_bounds(draw, pile):
    """Bounds of the weights of a pile, many of them equal or 0."""
    bounds = []
    for block in pile:
        first = draw.choice((0, block[4], draw.randint(0, 9)))
        second = draw.choice((first, block[4], 9, draw.randint(0, 9)))
        bounds.append((min(first, second), max(first, second)))
    return tuple(bounds)


def equal_bounds(numbers):
    """Bounds that allow these weights only."""
    return tuple((number, number) for number in numbers)


def reweighted(pile, numbers):
    """The pile with other weights."""
    return tuple(block[:4] + (number,) for block, number in zip(pile, numbers))


class WeightSpanTest(unittest.TestCase):
    def test_examples(self):
        self.assertEqual(weight_span(SURE, 1), ((0, 1), None))
        self.assertEqual(weight_span(SURE, 0), ((0, 1), None))

    def test_the_lowest_and_the_highest_of_a_tower(self):
        pile = tuple((0, k, 4, 1, k + 1) for k in range(6))
        for block in range(6):
            self.assertEqual(weight_span(pile, block), ((0, 1), None))

    def test_only_without_any_weight(self):
        self.assertEqual(weight_span(LOOSE, 1), ((0, 1), (0, 1)))
        self.assertEqual(weight_span(((0, 3, 4, 1, 2),), 0), ((0, 1), (0, 1)))

    def test_with_no_weight(self):
        self.assertIsNone(weight_span(LOOSE, 0))
        pile = ((0, 3, 4, 1, 2), (9, 3, 4, 1, 2))
        self.assertEqual([weight_span(pile, block) for block in range(2)], [None, None])

    def test_the_least_one_is_not_0(self):
        # About the right of the pillar the plank's turn is 2, and the arm of the counterweight 3 / 2.
        self.assertEqual(weight_span(COUNTERWEIGHT, 2), ((4, 3), None))
        self.assertEqual(weight_span(COUNTERWEIGHT, 1), ((0, 1), (27, 4)))
        self.assertEqual(weight_span(COUNTERWEIGHT, 0), ((0, 1), None))

    def test_between_two_fractions(self):
        # About 5 and about 3 the arms are 9 / 2 and 5 / 2; the plank's turn is 1, the other block's 15 / 2 and 27 / 2.
        self.assertEqual(weight_span(SEESAW, 2), ((13, 9), (29, 5)))
        self.assertEqual(weight_span(SEESAW, 3), ((13, 9), (29, 5)))
        self.assertEqual(weight_span(SEESAW, 1), ((0, 1), None))

    def test_a_plank_with_its_middle_at_the_edge(self):
        # The two blocks at its ends have the same arm: it stands just as long as the outer one is no heavier.
        for weight in range(1, 10):
            pile = ((-4, 0, 4, 1, 1), (-2, 1, 4, 1, 1), (-2, 2, 1, 1, weight), (1, 2, 1, 1, weight))
            self.assertEqual(weight_span(pile, 3), ((0, 1), (weight, 1)))
            self.assertEqual(weight_span(pile, 2), ((weight, 1), None))

    def test_only_one_weight(self):
        # The block 2, with its middle at 9 / 2, is to hold down the block 3 that reaches over the plank's right, 5:
        # a weight of 2 or more. About the pillar's right, 4, both are not to outweigh the plank: 2 or less.
        pile = ((3, 0, 1, 1, 5), (-3, 1, 8, 1, 1), (3, 2, 3, 2, 3), (3, 4, 6, 1, 1))
        self.assertEqual(weight_span(pile, 2), ((2, 1), (2, 1)))
        self.assertIs(stands(changed(pile, 2, (3, 2, 3, 2, 2))), True)
        for weight in (1, 3):
            self.assertIs(stands(changed(pile, 2, (3, 2, 3, 2, weight))), False)

    def test_a_block_on_a_plank_over_an_edge(self):
        for weight in range(1, 10):
            for more in range(1, 10):
                pile = ((0, 0, 2, 1, 1), (1, 1, 4, 1, weight), (0, 2, 2, 1, more))
                self.assertEqual(weight_span(pile, 1), ((0, 1), (more, 1)))
                self.assertEqual(weight_span(pile, 2), ((weight, 1), None))

    def test_the_weight_that_the_block_has_does_not_count(self):
        for pile in PILES[::5]:
            for block in range(len(pile)):
                other = changed(pile, block, changed(pile[block], 4, 10 - pile[block][4]))
                self.assertEqual(weight_span(other, block), weight_span(pile, block))

    def test_without_blocks(self):
        for block in (-1, 0, 1):
            self.assertIs(raised(weight_span, (), block), InvalidNumber)

    def test_numbers_at_and_beyond_the_last_one(self):
        for pile in (SURE, LOOSE, BRIDGE, ARCH, row_of_blocks(6)):
            for block in (0, len(pile) - 1):
                self.assertIsNone(raised(weight_span, pile, block))
            for block in (-1, -len(pile), len(pile), len(pile) + 1):
                self.assertIs(raised(weight_span, pile, block), InvalidNumber, block)

    def check_span(self, span):
        self.assertIs(type(span), tuple)
        self.assertEqual(len(span), 2)
        for number in span:
            if number is not None:
                self.assertIs(type(number), tuple)
                top, bottom = number
                self.assertEqual((type(top), type(bottom)), (int, int))
                self.assertTrue(top >= 0 and bottom > 0 and gcd(top, bottom) == 1, span)

    def test_within_a_span_it_stands_and_beyond_it_does_not(self):
        for pile in PILES[:80] + PILES[-80:]:
            for block in range(len(pile)):
                span = weight_span(pile, block)
                for weight in range(10):
                    tried = weights_of(pile)
                    tried[block] = weight
                    inside = span is not None and Fraction(*span[0]) <= weight
                    inside = inside and (span[1] is None or weight <= Fraction(*span[1]))
                    self.assertIs(stands_always(pile, equal_bounds(tried)), inside, (pile, block, weight))
                    if weight > 0:
                        self.assertIs(stands(reweighted(pile, tried)), inside, (pile, block, weight))

    def test_just_at_the_ends_and_just_beyond_them(self):
        ends = 0
        for pile in PILES:
            for block in range(len(pile)):
                span = weight_span(pile, block)
                if span is None:
                    continue
                self.check_span(span)
                low = Fraction(*span[0])
                high = 10 ** 6 if span[1] is None else Fraction(*span[1])
                tried = weights_of(pile)
                for weight in (low, (low + high) / 2, high):
                    tried[block] = weight
                    self.assertTrue(slow_stands(pile, tried), (pile, block, weight))
                if low > 0:
                    tried[block] = low - low / 1000
                    self.assertFalse(slow_stands(pile, tried), (pile, block))
                if span[1] is not None:
                    tried[block] = high + Fraction(1, 1000)
                    self.assertFalse(slow_stands(pile, tried), (pile, block))
                ends += low > 0 or (span[1] is not None and high > 0)
        self.assertGreater(ends, 40)

    def test_as_the_slow_form_tells(self):
        for pile in PILES:
            for block in range(len(pile)):
                span = slow_span(pile, block)
                if span is not None:
                    span = tuple(None if number is None else pair_of(number) for number in span)
                self.assertEqual(weight_span(pile, block), span, (pile, block))


class BoundsTest(unittest.TestCase):
    def test_examples(self):
        self.assertIs(stands_always(SURE, ((0, 5), (3, 3))), True)
        self.assertEqual(tipping_weights(LOOSE, ((1, 1), (0, 9))), (1, 9))

    def test_more_of_the_examples(self):
        self.assertIsNone(tipping_weights(SURE, ((0, 5), (3, 3))))
        self.assertIs(stands_always(LOOSE, ((1, 1), (0, 9))), False)
        self.assertIs(stands_always(LOOSE, ((0, 9), (0, 0))), True)

    def test_without_blocks(self):
        self.assertIs(stands_always((), ()), True)
        self.assertIsNone(tipping_weights((), ()))

    def test_bounds_of_0(self):
        for pile in PILES + [LOOSE, row_of_blocks(6)]:
            self.assertIs(stands_always(pile, ((0, 0),) * len(pile)), True)
            self.assertIsNone(tipping_weights(pile, ((0, 0),) * len(pile)))

    def test_low_equal_to_high(self):
        for pile in PILES:
            bounds = equal_bounds(weights_of(pile))
            self.assertIs(stands_always(pile, bounds), stands(pile))
            self.assertEqual(tipping_weights(pile, bounds), None if stands(pile) else tuple(weights_of(pile)))

    def test_the_pile_s_own_weights_do_not_count(self):
        for pile in PILES[::5]:
            other = reweighted(pile, [10 - weight for weight in weights_of(pile)])
            bounds = drawn_bounds(random.Random(33), pile)
            self.assertEqual(tipping_weights(pile, bounds), tipping_weights(other, bounds))

    def test_six_blocks_in_the_air(self):
        pile = tuple((3 * k, 5, 2, 1, 1) for k in range(6))
        self.assertEqual(tipping_weights(pile, ((0, 1),) * 6), (0, 0, 0, 0, 0, 1))
        self.assertEqual(tipping_weights(pile, ((0, 0),) * 3 + ((0, 7),) + ((0, 0),) * 2), (0, 0, 0, 7, 0, 0))
        self.assertIs(stands_always(pile, ((0, 1),) * 6), False)

    def test_the_first_of_several(self):
        # The plank tips to one side, or to the other one, or not.
        for low in range(10):
            for high in range(low, 10):
                found = tipping_weights(SEESAW, ((1, 1), (1, 1), (low, high), (low, high)))
                tipping = [pair for pair in product((low, high), repeat=2) if 5 * max(pair) > 2 + 9 * min(pair)]
                self.assertEqual(found, (1, 1) + min(tipping) if tipping else None, (low, high))

    def test_none_of_the_weights_between_tips(self):
        self.assertIs(stands_always(COUNTERWEIGHT, ((0, 9), (0, 6), (8, 9))), True)
        self.assertIs(stands_always(COUNTERWEIGHT, ((0, 9), (0, 6), (7, 9))), False)
        self.assertIs(stands_always(COUNTERWEIGHT, ((0, 9), (0, 7), (9, 9))), False)
        self.assertEqual(tipping_weights(COUNTERWEIGHT, ((0, 9), (0, 7), (9, 9))), (0, 7, 9))
        self.assertIs(stands_always(COUNTERWEIGHT, ((0, 9), (0, 0), (0, 9))), True)

    def test_all_say_the_same(self):
        draw = random.Random(34)
        answers = [0, 0]
        for pile in PILES:
            for _ in range(4):
                bounds = drawn_bounds(draw, pile)
                found = tipping_weights(pile, bounds)
                self.assertIs(stands_always(pile, bounds), found is None, (pile, bounds))
                answers[found is None] += 1
                if found is not None:
                    self.check_tipping(pile, bounds, found)
        self.assertGreater(min(answers), 150)

    def check_tipping(self, pile, bounds, found):
        self.assertIs(type(found), tuple)
        self.assertEqual(len(found), len(pile))
        self.assertTrue(all(weight in bound for weight, bound in zip(found, bounds)))
        self.assertFalse(slow_stands(pile, found), (pile, found))

    def test_as_the_slow_form_tells(self):
        draw = random.Random(35)
        for pile in PILES[:40] + PILES[-40:]:
            bounds = drawn_bounds(draw, pile)
            tipping = [tried for tried in product(*bounds) if not slow_stands(pile, tried)]
            self.assertEqual(tipping_weights(pile, bounds), min(tipping, default=None), (pile, bounds))
            self.assertIs(stands_always(pile, bounds), not tipping)

    def test_stands_always_holds_for_fractions(self):
        draw = random.Random(36)
        for pile in PILES:
            bounds = drawn_bounds(draw, pile)
            if stands_always(pile, bounds):
                for _ in range(3):
                    tried = [low + Fraction((high - low) * draw.randint(0, 60), 60) for low, high in bounds]
                    self.assertTrue(slow_stands(pile, tried), (pile, tried))

    def test_bounds_of_one_block_as_its_span_tells(self):
        draw = random.Random(37)
        for pile in PILES:
            for block in range(len(pile)):
                low, high = sorted((draw.randint(0, 9), draw.randint(0, 9)))
                bounds = changed(equal_bounds(weights_of(pile)), block, (low, high))
                span = weight_span(pile, block)
                inside = span is not None and Fraction(*span[0]) <= low
                inside = inside and (span[1] is None or high <= Fraction(*span[1]))
                self.assertIs(stands_always(pile, bounds), inside, (pile, bounds))

    def test_utmost_bounds(self):
        for bound in ((0, 0), (0, 9), (9, 9)):
            self.assertIs(stands_always(SURE, (bound, bound)), True)
        for bound in ((-1, 0), (-1, 9), (0, 10), (9, 10), (10, 10), (-1, -1), (1, 0), (9, 0), (9, 8)):
            for bounds in ((bound, (0, 9)), ((0, 9), bound)):
                for function in (stands_always, tipping_weights):
                    self.assertIs(raised(function, SURE, bounds), InvalidBounds, bounds)


class WrongArgumentsTest(unittest.TestCase):
    def test_wrong_piles(self):
        for value in wrong_piles():
            for block in (0, 9, None):
                self.assertIs(raised(weight_span, value, block), InvalidPile, value)
            for function in (stands_always, tipping_weights):
                for bounds in ((), ((0, 9), (0, 9)), None, ((0, 10),)):
                    self.assertIs(raised(function, value, bounds), InvalidPile, value)

    def test_wrong_blocks(self):
        for value in wrong_numbers() + [-1, 2, (), SURE[0], nested(30), nested(30, list)]:
            for pile in (SURE, LOOSE):
                self.assertIs(raised(weight_span, pile, value), InvalidNumber, value)

    def check_bounds(self, pile, bounds):
        for function in (stands_always, tipping_weights):
            self.assertIs(raised(function, pile, bounds), InvalidBounds, bounds)

    def test_wrong_bounds(self):
        bounds = ((0, 5), (3, 3))
        values = odd_values() + [0, 1, "ab", (), [], list(bounds), bounds[:1], bounds + bounds[:1], (bounds,), bounds * 2]
        values += [(0, 5), (0, 5, 3, 3), {0: (0, 5), 1: (3, 3)}, {(0, 5), (3, 3)}, nested(30), nested(30, list)]
        for value in values:
            self.check_bounds(SURE, value)
            self.check_bounds(LOOSE, value)
        for value in (((0, 1),), None, [], 0, ((),)):
            self.check_bounds((), value)

    def test_wrong_bound(self):
        values = odd_values() + [0, 1, (), (0,), (0, 5, 5), [0, 5], "05", b"05", ((0, 5),), {0, 5}, nested(29)]
        for value in values:
            self.check_bounds(SURE, (value, (3, 3)))
            self.check_bounds(SURE, ((0, 5), value))

    def test_wrong_low_and_high(self):
        for value in wrong_numbers() + [-1, 10, (), nested(28), nested(28, list)]:
            for bound in ((value, 9), (0, value), (value, value)):
                self.check_bounds(SURE, (bound, (3, 3)))
                self.check_bounds(SURE, ((0, 5), bound))

    def test_not_modified(self):
        values = [[[0, 5], [3, 3]], ([0, 5], [3, 3]), ((0, [5]), (3, 3)), [list(block) for block in SURE]]
        before = copy.deepcopy(values)
        for value in values:
            for function in (stands_always, tipping_weights):
                self.assertIs(raised(function, SURE, value), InvalidBounds)
                self.assertIs(raised(function, value, value), InvalidPile)
            self.assertIs(raised(weight_span, SURE, value), InvalidNumber)
        self.assertEqual(values, before)


class InterfaceTest(unittest.TestCase):
    def test_defined_in_their_file(self):
        for name in ("weight_span", "stands_always", "tipping_weights"):
            self.assertEqual(getattr(weights, name).__module__, "blockpiles.weights")

    def test_arguments_by_name(self):
        self.assertEqual(weight_span(pile=SURE, block=1), ((0, 1), None))
        self.assertIs(stands_always(pile=SURE, bounds=((0, 5), (3, 3))), True)
        self.assertEqual(tipping_weights(pile=LOOSE, bounds=((1, 1), (0, 9))), (1, 9))


if __name__ == "__main__":
    unittest.main()
