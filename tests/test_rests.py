"""Tests of rests and motions ([1], [2], [5] and [6])."""

import copy
import random
import unittest
from fractions import Fraction
from math import gcd

from blockpiles import rests
from blockpiles.errors import InvalidPile, Stands, Tips
from blockpiles.piles import contacts, is_pile, mirrored
from blockpiles.rests import is_motion, is_rest, some_motion, some_rest, stands
from tests.samples import (
    ARCH, BRIDGE, COUNTERWEIGHT, LIMIT, LOOSE, SURE, Odd,
    changed, drawn_piles, nested, odd_values, pair_of, raised, row_of_blocks, without, wrong_fractions, wrong_integers,
    wrong_piles,
)
from tests.slow import slow_is_motion, slow_is_rest

SURE_REST = (((1, 1), (3, 1)), ((0, 1), (2, 1)))
LOOSE_MOTION = ((0, 0), (-4, 1))


class StandsTest(unittest.TestCase):
    def test_examples(self):
        self.assertIs(stands(SURE), True)
        self.assertIs(stands(LOOSE), False)

    def test_without_blocks(self):
        self.assertIs(stands(()), True)

    def test_on_the_ground_and_in_the_air(self):
        self.assertIs(stands(row_of_blocks(6)), True)
        self.assertIs(stands(((0, 0, 1, 4, 9),)), True)
        self.assertIs(stands(((0, 1, 1, 4, 9),)), False)
        self.assertIs(stands(row_of_blocks(5) + ((0, 20, 1, 1, 1),)), False)

    def test_one_on_another_by_its_middle(self):
        for width in range(1, 9):
            for left in range(-9, 10):
                pile = ((0, 0, 5, 1, 1), (left, 1, width, 1, 9))
                self.assertIs(stands(pile), 0 <= 2 * left + width <= 10, pile)

    def test_known_piles(self):
        self.assertIs(stands(BRIDGE), True)
        self.assertIs(stands(without(BRIDGE, 0)), False)
        self.assertIs(stands(without(BRIDGE, 1)), False)
        self.assertIs(stands(COUNTERWEIGHT), True)
        self.assertIs(stands(without(COUNTERWEIGHT, 2)), False)
        self.assertIs(stands(changed(COUNTERWEIGHT, 2, (0, 2, 1, 1, 1))), False)
        self.assertIs(stands(ARCH), True)
        self.assertIs(stands(changed(ARCH, 2, (1, 2, 5, 1, 5))), False)
        self.assertIs(stands(changed(ARCH, 3, (6, 2, 5, 1, 5))), False)
        self.assertIs(stands(without(ARCH, 5)), True)

    def test_weights_at_the_very_edge(self):
        for weight in range(1, 10):
            for more in range(1, 10):
                pile = ((0, 0, 2, 1, 1), (1, 1, 4, 1, weight), (0, 2, 2, 1, more))
                self.assertIs(stands(pile), weight <= more, pile)

    def test_no_pull_and_no_friction(self):
        # The sides meet, but nothing lies below the second block.
        self.assertIs(stands(((0, 0, 4, 4, 9), (4, 1, 4, 1, 1))), False)
        # Nor does what hangs above hold it.
        self.assertIs(stands(((0, 0, 1, 2, 9), (0, 2, 3, 1, 9), (1, 1, 2, 1, 1))), False)

    def test_mirrored_piles(self):
        for pile in drawn_piles(200, 3):
            if is_pile(mirrored(pile)):
                self.assertIs(stands(mirrored(pile)), stands(pile), pile)

    def test_order_of_the_blocks(self):
        draw = random.Random(4)
        for pile in drawn_piles(100, 4):
            other = list(pile)
            draw.shuffle(other)
            self.assertIs(stands(tuple(other)), stands(pile), pile)


class DrawnPilesTest(unittest.TestCase):
    def check_fraction(self, share):
        self.assertIs(type(share), tuple)
        top, bottom = share
        self.assertEqual((type(top), type(bottom)), (int, int))
        self.assertTrue(0 <= top <= LIMIT and 0 < bottom <= LIMIT and gcd(top, bottom) == 1, share)

    def check_rest(self, pile, rest):
        self.assertIs(type(rest), tuple)
        self.assertEqual(len(rest), len(contacts(pile)))
        for shares in rest:
            self.assertIs(type(shares), tuple)
            self.assertEqual(len(shares), 2)
            for share in shares:
                self.check_fraction(share)
        self.assertTrue(slow_is_rest(pile, rest), (pile, rest))
        self.assertIs(is_rest(pile, rest), True, (pile, rest))

    def check_motion(self, pile, motion):
        self.assertIs(type(motion), tuple)
        self.assertEqual(len(motion), len(pile))
        for pair in motion:
            self.assertIs(type(pair), tuple)
            self.assertEqual([type(number) for number in pair], [int, int])
            self.assertTrue(max(map(abs, pair)) <= LIMIT, motion)
        self.assertTrue(slow_is_motion(pile, motion), (pile, motion))
        self.assertIs(is_motion(pile, motion), True, (pile, motion))

    def check_pile(self, pile):
        if stands(pile):
            self.check_rest(pile, some_rest(pile))
            self.assertIs(raised(some_motion, pile), Stands, pile)
        else:
            self.check_motion(pile, some_motion(pile))
            self.assertIs(raised(some_rest, pile), Tips, pile)

    def test_known_piles(self):
        for pile in ((), SURE, LOOSE, BRIDGE, COUNTERWEIGHT, ARCH, row_of_blocks(6)):
            self.check_pile(pile)

    def test_drawn_piles(self):
        piles = drawn_piles(3000, 5)
        for pile in piles:
            self.check_pile(pile)
        standing = sum(stands(pile) for pile in piles)
        self.assertTrue(600 < standing < 2400, standing)
        self.assertTrue(any(stands(pile) and len(pile) == 6 for pile in piles))
        self.assertTrue(any(not stands(pile) and len(pile) == 6 for pile in piles))

    def test_same_answer_each_time(self):
        for pile in (SURE, BRIDGE, ARCH):
            self.assertEqual(some_rest(pile), some_rest(pile))
        self.assertEqual(some_motion(LOOSE), some_motion(LOOSE))

    def test_arches_with_all_weights(self):
        for weight in range(1, 10):
            for other in range(1, 10):
                pile = changed(changed(ARCH, 2, (1, 2, 5, 1, weight)), 3, (6, 2, 5, 1, other))
                self.check_pile(pile)
                lighter, heavier = sorted((weight, other))
                self.assertIs(stands(pile), 3 * lighter + heavier >= 24, pile)


class SomeRestTest(unittest.TestCase):
    def test_the_only_rest(self):
        self.assertEqual(some_rest(SURE), SURE_REST)

    def test_without_blocks(self):
        self.assertEqual(some_rest(()), ())

    def test_fractions(self):
        self.assertEqual(some_rest(((0, 0, 5, 1, 1),)), (((1, 2), (1, 2)),))
        pile = ((0, 0, 3, 1, 6), (0, 1, 1, 1, 1))
        self.assertEqual(some_rest(pile), (((23, 6), (19, 6)), ((1, 2), (1, 2))))

    def test_tips(self):
        for pile in (LOOSE, ((0, 1, 1, 1, 1),), without(BRIDGE, 0)):
            with self.assertRaises(Tips):
                some_rest(pile)


class IsRestTest(unittest.TestCase):
    def test_examples(self):
        self.assertIs(is_rest(SURE, SURE_REST), True)
        self.assertIs(is_rest(SURE, (((2, 1), (2, 1)), ((0, 1), (2, 1)))), False)

    def test_without_blocks(self):
        self.assertIs(is_rest((), ()), True)
        self.assertIs(is_rest((), []), False)
        self.assertIs(is_rest((), (((0, 1), (0, 1)),)), False)

    def test_without_contacts(self):
        self.assertIs(is_rest(((0, 1, 1, 1, 1),), ()), False)

    def test_several_rests(self):
        pile = ((0, 0, 4, 1, 1),) + ((0, 1, 8, 1, 2), (4, 0, 4, 1, 1))
        self.assertEqual(contacts(pile), [(-1, 0, 0, 4), (-1, 2, 4, 8), (0, 1, 0, 4), (2, 1, 4, 8)])
        ends = (((3, 2), (1, 2)), ((1, 2), (3, 2)), ((1, 1), (0, 1)), ((0, 1), (1, 1)))
        middle = (((1, 2), (3, 2)), ((3, 2), (1, 2)), ((0, 1), (1, 1)), ((1, 1), (0, 1)))
        between = (((1, 1), (1, 1)), ((1, 1), (1, 1)), ((1, 2), (1, 2)), ((1, 2), (1, 2)))
        one_sided = (((1, 2), (5, 2)), ((1, 2), (1, 2)), ((0, 1), (2, 1)), ((0, 1), (0, 1)))
        for rest in (ends, middle, between, one_sided):
            self.assertTrue(slow_is_rest(pile, rest))
            self.assertIs(is_rest(pile, rest), True, rest)
        self.assertIs(is_rest(pile, changed(ends, 0, between[0])), False)

    def test_pushes_without_turns_and_turns_without_pushes(self):
        pile = ((2, 0, 4, 1, 2),)
        self.assertIs(is_rest(pile, (((1, 1), (1, 1)),)), True)
        self.assertIs(is_rest(pile, (((2, 1), (0, 1)),)), False)
        # The turns come to 8 here, but the pushes to 4 and to 4 / 3.
        self.assertIs(is_rest(pile, (((4, 1), (0, 1)),)), False)
        self.assertIs(is_rest(pile, (((0, 1), (4, 3)),)), False)

    def test_each_block_must_be_in_balance(self):
        pile = row_of_blocks(6)
        rest = some_rest(pile)
        for at in range(6):
            wrong = changed(rest, at, ((rest[at][0][0] + rest[at][0][1], rest[at][0][1]), rest[at][1]))
            self.assertIs(is_rest(pile, wrong), False)

    def test_shares_may_not_be_below_0(self):
        negative = (((-2, 1), (4, 1)), ((-1, 1), (3, 1)))
        pile = ((0, 0, 4, 1, 1), (3, 1, 4, 1, 1))
        balanced = (((-3, 2), (7, 2)), ((-1, 1), (2, 1)))
        self.assertIs(is_rest(SURE, negative), False)
        self.assertIs(is_rest(pile, balanced), False)
        self.assertIs(is_rest(LOOSE, (((-3, 1), (7, 1)), ((-2, 1), (4, 1)))), False)

    def test_fractions_in_lowest_terms(self):
        for at in range(2):
            for end in range(2):
                top, bottom = SURE_REST[at][end]
                for factor in (2, 3, -1):
                    wrong = changed(SURE_REST[at], end, (top * factor, bottom * factor))
                    self.assertIs(is_rest(SURE, changed(SURE_REST, at, wrong)), False, wrong)

    def test_bounds_of_bottoms(self):
        pile = ((0, 0, 4, 1, 1), (4, 0, 4, 1, 1), (0, 1, 8, 1, 1))
        half = Fraction(1, 2)
        for bottom in (LIMIT - 2, LIMIT, LIMIT + 2):
            part = Fraction(1, bottom)
            rest = tuple((pair_of(first), pair_of(second)) for first, second in (
                (half + part, 1 - part), (1 - part, half + part), (part, half - part), (half - part, part),
            ))
            self.assertTrue(slow_is_rest(pile, rest))
            self.assertIs(is_rest(pile, rest), bottom <= LIMIT, bottom)

    def test_bounds_of_tops(self):
        pile = ((0, 0, 4, 1, 2), (4, 0, 4, 1, 2), (0, 1, 8, 1, 2))
        bottom = LIMIT // 2 - 1
        for top in (LIMIT - 1, LIMIT, LIMIT + 1):
            share = Fraction(top, bottom)
            self.assertEqual(pair_of(share), (top, bottom))
            rest = tuple((pair_of(first), pair_of(second)) for first, second in (
                (Fraction(1), share), (4 - share, Fraction(1)), (Fraction(0), share - 1), (3 - share, Fraction(0)),
            ))
            self.assertTrue(slow_is_rest(pile, rest))
            self.assertIs(is_rest(pile, rest), top <= LIMIT, top)

    def test_wrong_shares(self):
        pile = ((0, 0, 2, 1, 2),)
        self.assertIs(is_rest(pile, (((1, 1), (1, 1)),)), True)
        for value in wrong_fractions():
            self.assertIs(is_rest(pile, ((value, (1, 1)),)), False, value)
            self.assertIs(is_rest(pile, (((1, 1), value),)), False, value)
            self.assertIs(is_rest(pile, ((value, value),)), False, value)

    def test_wrong_zeros(self):
        for value in odd_values() + [0, (0,), (0, 2), (0, -1), (0, 0), [0, 1], (False, 1), (0, True), "01"]:
            wrong = changed(SURE_REST, 1, (value, (2, 1)))
            self.assertIs(is_rest(SURE, wrong), False, value)

    def test_wrong_pairs(self):
        for value in odd_values() + [0, (), ((1, 1),), ((1, 1), (1, 1), (0, 1)), [(1, 1), (1, 1)], (1, 1), "ab"]:
            self.assertIs(is_rest(((0, 0, 2, 1, 2),), (value,)), False, value)

    def test_wrong_rests(self):
        values = odd_values() + [0, 1, "ab", (), list(SURE_REST), SURE_REST[:1], SURE_REST + SURE_REST[:1]]
        values += [[list(pair) for pair in SURE_REST], (SURE_REST,), {0: SURE_REST}, SURE_REST[::-1]]
        values += [SURE_REST + (((0, 1), (0, 1)),), (SURE_REST[0], list(SURE_REST[1])), LOOSE_MOTION]
        for value in values:
            self.assertIs(is_rest(SURE, value), False, value)

    def test_deep_values(self):
        for make in (tuple, list):
            for depth in (1, 2, 3, 29, 30):
                self.assertIs(is_rest(SURE, nested(depth, make)), False)

    def test_changed_rests_as_the_document_tells(self):
        draw = random.Random(6)
        for pile in drawn_piles(300, 6):
            if not stands(pile) or not pile:
                continue
            rest = some_rest(pile)
            at, end = draw.randrange(len(rest)), draw.randrange(2)
            share = pair_of(Fraction(*rest[at][end]) + draw.choice((0, 1, Fraction(1, 2), Fraction(-1, 3))))
            other = changed(rest, at, changed(rest[at], end, share))
            self.assertIs(is_rest(pile, other), slow_is_rest(pile, other), (pile, other))

    def test_mixed_rests_are_rests(self):
        for pile in drawn_piles(300, 7):
            if not stands(pile) or not is_pile(mirrored(pile)):
                continue
            first = some_rest(pile)
            other = dict(zip(contacts(mirrored(pile)), some_rest(mirrored(pile))))
            second = tuple(other[low, up, -right, -left][::-1] for low, up, left, right in contacts(pile))
            self.assertIs(is_rest(pile, second), True, (pile, second))
            both = tuple(
                tuple(pair_of((Fraction(*one) + Fraction(*two)) / 2) for one, two in zip(shares, others))
                for shares, others in zip(first, second)
            )
            self.assertIs(is_rest(pile, both), True, (pile, both))


class SomeMotionTest(unittest.TestCase):
    def test_tips(self):
        self.assertTrue(slow_is_motion(LOOSE, some_motion(LOOSE)))

    def test_in_the_air(self):
        self.assertTrue(slow_is_motion(((20, 20, 8, 4, 9),), some_motion(((20, 20, 8, 4, 9),))))

    def test_stands(self):
        for pile in ((), SURE, BRIDGE, COUNTERWEIGHT, ARCH):
            with self.assertRaises(Stands):
                some_motion(pile)


class IsMotionTest(unittest.TestCase):
    def test_examples(self):
        self.assertIs(is_motion(LOOSE, LOOSE_MOTION), True)
        self.assertIs(is_motion(LOOSE, ((0, 0), (-3, 1))), False)

    def test_without_blocks(self):
        self.assertIs(is_motion((), ()), False)
        self.assertIs(is_motion((), []), False)

    def test_sum_of_exactly_0(self):
        self.assertIs(is_motion(LOOSE, ((0, 0), (0, 0))), False)
        self.assertIs(is_motion(SURE, ((0, 0), (-4, 1))), False)
        # In the air the weights of 1 and 2 may go up and down as they like.
        pile = ((0, 1, 2, 1, 1), (4, 1, 2, 1, 2))
        self.assertIs(is_motion(pile, ((-2, 0), (1, 0))), False)
        self.assertIs(is_motion(pile, ((-1, 0), (1, 0))), True)
        self.assertIs(is_motion(pile, ((-3, 0), (1, 0))), False)
        self.assertIs(is_motion(pile, ((2, 0), (-1, 0))), False)
        self.assertIs(is_motion(pile, ((3, 0), (-1, 0))), True)

    def test_middles_that_are_not_whole(self):
        pile = ((0, 1, 1, 1, 9),)
        self.assertIs(is_motion(pile, ((0, 1),)), True)
        self.assertIs(is_motion(pile, ((-1, 2),)), False)
        self.assertIs(is_motion(pile, ((-1, 3),)), True)
        self.assertIs(is_motion(pile, ((1, -2),)), False)
        self.assertIs(is_motion(pile, ((2, -3),)), True)
        self.assertIs(is_motion(((-1, 1, 1, 1, 9),), ((0, -1),)), True)
        self.assertIs(is_motion(((-1, 1, 1, 1, 9),), ((0, 1),)), False)

    def test_both_ends_of_each_contact(self):
        # The upper block goes up at one end of the contact, and sinks at the other one.
        pile = ((0, 0, 4, 1, 1), (1, 1, 2, 1, 9))
        self.assertIs(is_motion(pile, ((0, 0), (-2, 1))), False)
        self.assertIs(is_motion(pile, ((0, 0), (2, -1))), False)
        self.assertIs(is_motion(((0, 0, 4, 1, 1),), ((1, 0),)), False)
        self.assertIs(is_motion(((0, 0, 4, 1, 1),), ((-1, 1),)), False)
        self.assertIs(is_motion(((0, 0, 4, 1, 1),), ((3, -1),)), False)

    def test_the_upper_one_may_keep_behind(self):
        pile = ((0, 1, 4, 1, 9), (0, 2, 4, 1, 1))
        self.assertIs(is_motion(pile, ((1, 0), (0, 0))), True)
        self.assertIs(is_motion(pile, ((1, 0), (1, 0))), True)
        self.assertIs(is_motion(pile, ((1, 0), (2, 0))), False)
        self.assertIs(is_motion(pile, ((1, 0), (-9, 0))), False)
        self.assertIs(is_motion(pile, ((1, 0), (-8, 0))), True)

    def test_bounds_of_integers(self):
        pile = ((0, 1, 4, 1, 1),)
        self.assertIs(is_motion(pile, ((LIMIT, 0),)), True)
        self.assertIs(is_motion(pile, ((LIMIT + 1, 0),)), False)
        self.assertIs(is_motion(pile, ((0, LIMIT),)), True)
        self.assertIs(is_motion(pile, ((0, LIMIT + 1),)), False)
        self.assertIs(is_motion(pile, ((-LIMIT, LIMIT),)), True)
        self.assertIs(is_motion(pile, ((-LIMIT - 1, LIMIT),)), False)
        self.assertIs(is_motion(((-4, 1, 4, 1, 1),), ((0, -LIMIT),)), True)
        self.assertIs(is_motion(((-4, 1, 4, 1, 1),), ((0, -LIMIT - 1),)), False)

    def test_wrong_integers(self):
        pile = ((0, 1, 4, 1, 1),)
        for value in wrong_integers():
            self.assertIs(is_motion(pile, ((value, 1),)), False, value)
            self.assertIs(is_motion(pile, ((1, value),)), False, value)

    def test_wrong_pairs(self):
        for value in odd_values() + [0, 1, (), (1,), (1, 0, 0), [1, 0], "10", ((1, 0),), (1, (0,))]:
            self.assertIs(is_motion(((0, 1, 4, 1, 1),), (value,)), False, value)
            self.assertIs(is_motion(LOOSE, (value, (-4, 1))), False, value)
            self.assertIs(is_motion(LOOSE, ((0, 0), value)), False, value)

    def test_wrong_motions(self):
        values = odd_values() + [0, 1, "ab", (), list(LOOSE_MOTION), LOOSE_MOTION[:1], LOOSE_MOTION[1:]]
        values += [LOOSE_MOTION + ((0, 0),), ((0, 0),) + LOOSE_MOTION, (LOOSE_MOTION,), {0: LOOSE_MOTION}]
        values += [[list(pair) for pair in LOOSE_MOTION], LOOSE_MOTION[::-1], SURE_REST, (0, 0, -4, 1), Odd()]
        for value in values:
            self.assertIs(is_motion(LOOSE, value), False, value)

    def test_deep_values(self):
        for make in (tuple, list):
            for depth in (1, 2, 3, 29, 30):
                self.assertIs(is_motion(LOOSE, nested(depth, make)), False)

    def test_changed_motions_as_the_document_tells(self):
        draw = random.Random(8)
        for pile in drawn_piles(600, 8):
            if stands(pile):
                motion = tuple((draw.randint(-3, 3), draw.randint(-1, 1)) for _ in pile)
                self.assertIs(is_motion(pile, motion), False, (pile, motion))
                self.assertFalse(slow_is_motion(pile, motion), (pile, motion))
                continue
            motion = some_motion(pile)
            at = draw.randrange(len(pile))
            pair = (motion[at][0] + draw.randint(-4, 4), motion[at][1] + draw.randint(-1, 1))
            other = changed(motion, at, pair)
            self.assertIs(is_motion(pile, other), slow_is_motion(pile, other), (pile, other))


class WrongPilesTest(unittest.TestCase):
    def test_raise_invalid_pile(self):
        for value in wrong_piles():
            for function in (stands, some_rest, some_motion):
                self.assertIs(raised(function, value), InvalidPile, value)
            for function in (is_rest, is_motion):
                for other in ((), SURE_REST, None):
                    self.assertIs(raised(function, value, other), InvalidPile, value)

    def test_not_modified(self):
        rest = [[list(share) for share in pair] for pair in SURE_REST]
        motion = [list(pair) for pair in LOOSE_MOTION]
        pile = [list(block) for block in SURE]
        before = copy.deepcopy((rest, motion, pile))
        self.assertIs(is_rest(SURE, rest), False)
        self.assertIs(is_rest(SURE, tuple(rest)), False)
        self.assertIs(is_motion(LOOSE, motion), False)
        self.assertIs(is_motion(LOOSE, tuple(motion)), False)
        for function in (stands, some_rest, some_motion):
            self.assertIs(raised(function, pile), InvalidPile)
        self.assertEqual((rest, motion, pile), before)


class InterfaceTest(unittest.TestCase):
    def test_defined_in_their_file(self):
        for name in ("stands", "some_rest", "is_rest", "some_motion", "is_motion"):
            self.assertEqual(getattr(rests, name).__module__, "blockpiles.rests")

    def test_arguments_by_name(self):
        self.assertIs(stands(pile=SURE), True)
        self.assertEqual(some_rest(pile=SURE), SURE_REST)
        self.assertIs(is_rest(pile=SURE, value=SURE_REST), True)
        self.assertTrue(slow_is_motion(LOOSE, some_motion(pile=LOOSE)))
        self.assertIs(is_motion(pile=LOOSE, value=LOOSE_MOTION), True)


if __name__ == "__main__":
    unittest.main()
