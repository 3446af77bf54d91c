"""Tests of props, offers and cures ([1], [2], [12] and [13])."""

import copy
import random
import unittest
from fractions import Fraction
from itertools import combinations

from blockpiles import props as module
from blockpiles.balance import propped_table
from blockpiles.errors import InvalidOffers, InvalidPile, InvalidProps
from blockpiles.kinds import reduced
from blockpiles.piles import contacts, is_pile, mirrored
from blockpiles.props import (
    all_cheapest, are_offers, are_props, is_motion_with, is_rest_with, least_price, motion_with, price_of,
    stands_with, sure_props,
)
from blockpiles.rests import is_motion, is_rest, some_motion, some_rest, stands
from tests.samples import (
    ARCH, BRIDGE, COUNTERWEIGHT, LIMIT, LOOSE, SEESAW, SURE, Odd,
    all_props, changed, drawn_offers, drawn_piles, drawn_props, dropped_piles, mirrored_props, nested, odd_values,
    pair_of, raised, row_of_blocks, shifted, side_by_side, useful_offers, without, wrong_fractions, wrong_integers,
    wrong_numbers, wrong_piles,
)
from tests.slow import slow_is_motion, slow_is_rest, slow_stands, weights_of

PILES = dropped_piles(150, 91) + drawn_piles(150, 92)
TIPPING = [pile for pile in dropped_piles(120, 93) + drawn_piles(120, 94) if not stands(pile)]
KNOWN = [(), SURE, LOOSE, BRIDGE, COUNTERWEIGHT, SEESAW, ARCH]
# A plank in the air: with props at its ends, or one at its middle, it stands.
PLANK = ((0, 1, 8, 1, 2),)
LOOSE_PROPS = ((1, 7),)
LOOSE_REST = (((5, 4), (7, 4)), ((1, 1), (0, 1)), (1, 1))
LOOSE_MOTION = ((0, 0), (-4, 1))
LOOSE_OFFERS = (((1, 4), 1), ((1, 7), 2))
EIGHT = tuple((0, place) for place in range(8))
SIX = tuple(((0, place), 1 + place) for place in range(6))


def rest_with(pile, props):
    """The rest with props that the solved equations show."""
    table = propped_table(pile, props)
    many = 2 * len(contacts(pile))
    amounts = [reduced(amount, table.scale) for amount in table.amounts()]
    return tuple((amounts[k], amounts[k + 1]) for k in range(0, many, 2)) + tuple(amounts[many:])


def subsets(values):
    """All ascending tuples of these values, ascending."""
    return sorted(chosen for many in range(len(values) + 1) for chosen in combinations(values, many))


def slow_cures(pile, offers):
    """All cures with their prices, by trying all bought props."""
    prices = dict(offers)
    cures = [bought for bought in subsets([prop for prop, _ in offers]) if stands_with(pile, bought)]
    return [(sum(prices[prop] for prop in cure), cure) for cure in cures]


def wrong_props(good=LOOSE_PROPS[0]):
    """Values that are not props of LOOSE, though some come near."""
    number, place = good
    values = odd_values() + [0, good, [good], [list(good)], (list(good),), (good, None), (good, good), {good}]
    values += [((1, 7), (1, 6)), ((1, 7), (0, 0)), ((0, 0), (1, 7), (1, 6)), ((0, 0), (0, 0), (1, 7)), EIGHT + (good,)]
    values += [((number,),), ((number, place, 0),), (((number, place),),), ((),), "17", ("17",), (b"17",), ((good, 1),)]
    values += [((-1, 4),), ((2, 4),), ((0, -1),), ((0, 5),), ((1, 2),), ((1, 8),), ((0, 0), (1, 8)), ((0, 5), (1, 7))]
    values += [((item, place),) for item in wrong_numbers()] + [((number, item),) for item in wrong_numbers()]
    values += [((0, 0), item) for item in odd_values() + [0, (), (1,)]] + [nested(30), nested(30, list), (nested(29),)]
    return values


def wrong_offers():
    """Values that are not offers of LOOSE, though some come near."""
    values = odd_values() + [0, ((1, 7), 2), [((1, 7), 2)], ([(1, 7), 2],), ((1, 7), 2, 1), (((1, 7), 2, 1),)]
    values += [(((1, 7),),), (((1, 7),), 2), (((1, 7), (2,)),), (((1, 7), [2]),), ((1, 7, 2),), "172", {(1, 7): 2}]
    values += [((prop, 2),) for prop in odd_values() + [0, (1,), (1, 7, 0), [1, 7], (1, 8), (1, 2), (2, 4), (-1, 0)]]
    values += [(((1, item), 2),) for item in wrong_numbers()] + [(((item, 4), 2),) for item in wrong_numbers()]
    values += [(((1, 7), price),) for price in wrong_numbers() + [0, -1, 10, "2", (2,)]]
    values += [(((0, 0), 1), ((1, 7), price)) for price in wrong_numbers() + [0, 10]]
    values += [(((1, 7), 2), ((1, 4), 1)), (((1, 7), 2), ((1, 7), 2)), (((1, 7), 1), ((1, 7), 2)), (((1, 7), 2), None)]
    values += [(((1, 4), 1), ((1, 4), 2), ((1, 7), 1)), (((0, 4), 9), ((0, 3), 1)), (((0, 4), 1), ((0, 3), 9))]
    values += [tuple(((1, 3 + k), 1) for k in range(5)) + (((0, 0), 1),), nested(30), nested(30, list), (nested(29),)]
    values += [(((0, 0), 1), ((0, 1), 1)) + tuple(((1, 3 + k), 1) for k in range(5))]
    return values


class ArePropsTest(unittest.TestCase):
    def test_example(self):
        self.assertIs(are_props(LOOSE, LOOSE_PROPS), True)

    def test_left_and_right_and_beyond_them(self):
        for pile in KNOWN + PILES[:40]:
            for number, (left, _, width, _, _) in enumerate(pile):
                for place in range(left - 2, left + width + 3):
                    good = left <= place <= left + width
                    self.assertIs(are_props(pile, ((number, place),)), good, (pile, number, place))

    def test_numbers_of_blocks(self):
        for pile in (SURE, BRIDGE, row_of_blocks(6)):
            for number in range(-len(pile) - 1, len(pile) + 2):
                place = pile[number][0] if -len(pile) <= number < len(pile) else 0
                self.assertIs(are_props(pile, ((number, place),)), 0 <= number < len(pile), number)

    def test_without_blocks(self):
        self.assertIs(are_props((), ()), True)
        self.assertIs(are_props((), ((0, 0),)), False)
        self.assertIs(are_props((), ((-1, 0),)), False)

    def test_up_to_8_props(self):
        pile = ((0, 0, 8, 1, 1), (0, 1, 8, 1, 1))
        for props in (all_props(pile), all_props(pile)[5:], all_props(pile)[::2]):
            for many in range(len(props) + 1):
                self.assertIs(are_props(pile, props[:many]), many <= 8, many)

    def test_ascending_without_repetitions(self):
        pile = ((0, 0, 8, 1, 1), (-4, 1, 8, 1, 1))
        self.assertIs(are_props(pile, ((0, 3), (0, 4), (1, -4), (1, -3), (1, 4))), True)
        for props in (((0, 3), (0, 3)), ((0, 4), (0, 3)), ((1, -4), (0, 3)), ((1, -3), (1, -4)), ((1, 0), (1, 0))):
            self.assertIs(are_props(pile, props), False, props)
            self.assertIs(are_props(pile, ((0, 0),) + props), False, props)
            self.assertIs(are_props(pile, props + ((1, 4),)), False, props)

    def test_wrong_values(self):
        for value in wrong_props():
            self.assertIs(are_props(LOOSE, value), False, value)


class StandsWithTest(unittest.TestCase):
    def test_example(self):
        self.assertIs(stands_with(LOOSE, LOOSE_PROPS), True)

    def test_more_of_the_example(self):
        # The middle of block 1 is at 5, and its contact ends at 4.
        for place in range(3, 8):
            self.assertIs(stands_with(LOOSE, ((1, place),)), place >= 5, place)
        for place in range(5):
            self.assertIs(stands_with(LOOSE, ((0, place),)), False)

    def test_without_blocks_and_without_props(self):
        self.assertIs(stands_with((), ()), True)
        for pile in PILES + KNOWN:
            self.assertIs(stands_with(pile, ()), stands(pile), pile)

    def test_a_plank_in_the_air(self):
        for first in range(9):
            self.assertIs(stands_with(PLANK, ((0, first),)), first == 4)
            for second in range(first + 1, 9):
                self.assertIs(stands_with(PLANK, ((0, first), (0, second))), first <= 4 <= second)

    def test_middles_that_are_not_whole(self):
        for place in range(6):
            self.assertIs(stands_with(((0, 1, 5, 1, 1),), ((0, place),)), False)
        self.assertIs(stands_with(((0, 1, 5, 1, 1),), ((0, 2), (0, 3))), True)

    def test_whatever_lies_below_the_block(self):
        # There is no way for a prop from the ground to the block, and it holds it nevertheless.
        pile = ((0, 0, 8, 1, 1), (6, 1, 8, 1, 9))
        self.assertEqual([stands_with(pile, ((1, place),)) for place in range(6, 15)], [False] * 4 + [True] * 5)
        pile = row_of_blocks(5) + ((-20, 20, 2, 1, 9),)
        self.assertEqual([stands_with(pile, ((5, place),)) for place in (-20, -19, -18)], [False, True, False])

    def test_a_prop_does_not_pull(self):
        # Block 1 would be kept from rising by its left end.
        self.assertIs(stands_with(LOOSE, ((1, 3),)), False)
        self.assertIs(stands_with(without(BRIDGE, 1), ((1, 0),)), False)
        self.assertIs(stands_with(without(BRIDGE, 1), ((1, 8),)), True)

    def test_a_prop_below_one_block_holds_those_on_it(self):
        pile = ((0, 5, 4, 1, 1), (1, 6, 4, 1, 1), (1, 7, 4, 1, 2))
        self.assertEqual([stands_with(pile, ((0, place),)) for place in range(5)], [False] * 5)
        self.assertEqual([stands_with(pile, ((0, 2), (0, place))) for place in (3, 4)], [True, True])
        self.assertIs(stands_with(pile, ((1, 3),)), False)

    def test_8_props(self):
        pile = ((0, 5, 8, 1, 1), (20, 5, 8, 1, 1), (-20, 5, 8, 1, 1), (0, 9, 8, 1, 1))
        ends = tuple((k, pile[k][0] + at) for k in range(4) for at in (0, 8))
        self.assertIs(stands_with(pile, ends), True)
        for at in range(8):
            self.assertIs(stands_with(pile, without(ends, at)), False)
        self.assertIs(raised(stands_with, pile, ends[:1] + ((0, 4),) + ends[1:]), InvalidProps)

    def test_six_blocks(self):
        pile = tuple((3 * k, 5, 2, 1, 1) for k in range(6))
        props = tuple((k, 3 * k + 1) for k in range(6))
        self.assertIs(stands_with(pile, props), True)
        for at in range(6):
            self.assertIs(stands_with(pile, without(props, at)), False)

    def test_as_the_slow_form_tells(self):
        draw = random.Random(95)
        found = {True: 0, False: 0}
        for pile in PILES + KNOWN:
            for many in (1, 2, 3) if len(pile) > 3 else (1, 2, 4, 8):
                props = drawn_props(draw, pile, many)
                told = stands_with(pile, props)
                self.assertIs(told, slow_stands(pile, weights_of(pile), (), props), (pile, props))
                found[told] += not stands(pile)
        self.assertGreater(min(found.values()), 100)

    def test_more_props_never_make_it_tip(self):
        draw = random.Random(96)
        found = 0
        for pile in TIPPING:
            props = drawn_props(draw, pile, 8)
            mixed = draw.sample(props, len(props))
            told = [stands_with(pile, tuple(sorted(mixed[:many]))) for many in range(len(props) + 1)]
            self.assertEqual(told, sorted(told), (pile, props))
            found += told[-1]
        self.assertGreater(found, 50)

    def test_mirrored_shifted_and_mixed_piles(self):
        draw = random.Random(97)
        for pile in PILES:
            props = drawn_props(draw, pile, draw.randint(1, 5))
            told = stands_with(pile, props)
            if is_pile(mirrored(pile)):
                self.assertIs(stands_with(mirrored(pile), mirrored_props(props)), told, (pile, props))
            if is_pile(shifted(pile, -2)):
                moved = tuple((number, place - 2) for number, place in props)
                self.assertIs(stands_with(shifted(pile, -2), moved), told, (pile, props))
            mixed = tuple(sorted((len(pile) - 1 - number, place) for number, place in props))
            self.assertIs(stands_with(pile[::-1], mixed), told, (pile, props))

    def test_two_piles_side_by_side(self):
        draw = random.Random(98)
        found = 0
        for first, second in zip(PILES, PILES[1:]):
            both = side_by_side(first[:3], second[:3])
            if both is None:
                continue
            blocks, left, right = both
            one, other = drawn_props(draw, first[:3], 2), drawn_props(draw, second[:3], 2)
            props = [(k, place + left) for k, place in one]
            props += [(k + len(first[:3]), place + right) for k, place in other]
            told = stands_with(first[:3], one) and stands_with(second[:3], other)
            self.assertIs(stands_with(blocks, tuple(props)), told)
            self.assertIs(stands(blocks), stands(first[:3]) and stands(second[:3]))
            found += told
        self.assertGreater(found, 20)


class RestsAndMotionsWithTest(unittest.TestCase):
    def check(self, pile, props):
        """Whether the pile has a rest with the props, and a motion if not; each is one."""
        if not stands_with(pile, props):
            motion = motion_with(pile, props)
            self.assertIs(is_motion_with(pile, props, motion), True, (pile, props, motion))
            self.assertTrue(slow_is_motion(pile, motion, props), (pile, props, motion))
            return False
        rest = rest_with(pile, props)
        self.assertIs(is_rest_with(pile, props, rest), True, (pile, props, rest))
        self.assertTrue(slow_is_rest(pile, rest, props), (pile, props, rest))
        return True

    def test_a_rest_or_a_motion(self):
        draw = random.Random(99)
        standing = 0
        for pile in PILES * 2 + KNOWN:
            for many in (0, 1, 2, 4, 8):
                standing += self.check(pile, drawn_props(draw, pile, many))
        self.assertTrue(1000 < standing < 2000, standing)

    def test_never_both(self):
        draw = random.Random(100)
        for pile in TIPPING:
            props = drawn_props(draw, pile, draw.randint(1, 6))
            motions = [some_motion(pile)]
            motions += [motion_with(pile, props[:k]) for k in range(len(props) + 1) if not stands_with(pile, props[:k])]
            found = [motion for motion in motions if is_motion_with(pile, props, motion)]
            self.assertTrue(not found or not stands_with(pile, props), (pile, props))

    def test_without_props(self):
        for pile in PILES[::4] + KNOWN:
            if stands(pile):
                self.assertIs(is_rest_with(pile, (), some_rest(pile)), True)
            else:
                self.assertIs(is_motion_with(pile, (), some_motion(pile)), True)
        self.assertIs(is_rest_with((), (), ()), True)
        self.assertIs(is_motion_with((), (), ()), False)
        self.assertIs(is_rest_with(LOOSE, (), (((2, 1), (2, 1)), ((0, 1), (2, 1)))), False)

    def test_same_answer_for_props_that_are_not_needed(self):
        for pile in PILES[::4]:
            if stands(pile) and pile:
                rest = some_rest(pile)
                for prop in all_props(pile):
                    self.assertIs(is_rest_with(pile, (prop,), rest + ((0, 1),)), True)
                    self.assertIs(is_rest_with(pile, (prop,), rest), False)
                    self.assertIs(is_rest_with(pile, (prop,), rest + ((1, 1),)), False)


class IsRestWithTest(unittest.TestCase):
    def test_of_the_example(self):
        # Block 1 weighs 2 at the place 5: a push of 1 at 3 and of 1 at 7.
        self.assertTrue(slow_is_rest(LOOSE, LOOSE_REST, LOOSE_PROPS))
        self.assertIs(is_rest_with(LOOSE, LOOSE_PROPS, LOOSE_REST), True)
        rest = (((1, 3), (7, 3)), ((0, 1), (4, 3)), (2, 3))
        self.assertFalse(slow_is_rest(LOOSE, rest, LOOSE_PROPS))
        rest = (((1, 1), (7, 3)), ((0, 1), (4, 3)), (2, 3))
        self.assertTrue(slow_is_rest(LOOSE, rest, LOOSE_PROPS))
        self.assertIs(is_rest_with(LOOSE, LOOSE_PROPS, rest), True)

    def test_the_push_is_under_the_block(self):
        self.assertIs(is_rest_with(PLANK, ((0, 4),), ((2, 1),)), True)
        self.assertIs(is_rest_with(PLANK, ((0, 4),), ((-2, 1),)), False)
        self.assertIs(is_rest_with(PLANK, ((0, 4),), ((1, 1),)), False)
        self.assertIs(is_rest_with(PLANK, ((0, 3),), ((2, 1),)), False)
        self.assertIs(is_rest_with(PLANK, ((0, 0), (0, 8)), ((1, 1), (1, 1))), True)
        self.assertIs(is_rest_with(PLANK, ((0, 0), (0, 8)), ((2, 1), (0, 1))), False)
        self.assertIs(is_rest_with(PLANK, ((0, 0), (0, 6)), ((2, 3), (4, 3))), True)
        self.assertIs(is_rest_with(PLANK, ((0, 0), (0, 6)), ((4, 3), (2, 3))), False)
        self.assertIs(is_rest_with(PLANK, ((0, 0), (0, 1)), ((-6, 1), (8, 1))), False)

    def test_each_prop_below_its_own_block(self):
        pile = ((0, 5, 4, 1, 1), (10, 5, 4, 1, 3))
        props = ((0, 2), (1, 12))
        self.assertIs(is_rest_with(pile, props, ((1, 1), (3, 1))), True)
        self.assertIs(is_rest_with(pile, props, ((3, 1), (1, 1))), False)
        self.assertIs(is_rest_with(pile, props, ((2, 1), (2, 1))), False)

    def test_lengths(self):
        rest = LOOSE_REST
        for value in (rest[:2], rest[:1], rest[1:], rest + ((0, 1),), rest[:2] + ((1, 1), (0, 1)), rest[::-1], (rest,)):
            self.assertIs(is_rest_with(LOOSE, LOOSE_PROPS, value), False, value)
        pair = (rest[0], rest[1], ((1, 1), (0, 1)))
        self.assertIs(is_rest_with(LOOSE, LOOSE_PROPS, pair), False)
        self.assertIs(is_rest_with(PLANK, ((0, 4),), (((1, 1), (1, 1)),)), False)

    def test_wrong_pushes(self):
        for value in wrong_fractions() + [2, (2,), (4, 2), [2, 1], (2, True), "21", ((2, 1),), (2, 1, 1)]:
            self.assertIs(is_rest_with(PLANK, ((0, 4),), (value,)), False, value)
            self.assertIs(is_rest_with(PLANK, ((0, 0), (0, 8)), ((1, 1), value)), False, value)
            self.assertIs(is_rest_with(PLANK, ((0, 0), (0, 8)), (value, (1, 1))), False, value)

    def test_wrong_zeros(self):
        for value in odd_values() + [0, (0,), (0, 2), (0, -1), (0, 0), [0, 1], (False, 1), (0, True), "01"]:
            self.assertIs(is_rest_with(PLANK, ((0, 4), (0, 8)), ((2, 1), value)), False, value)
        self.assertIs(is_rest_with(PLANK, ((0, 4), (0, 8)), ((2, 1), (0, 1))), True)

    def test_wrong_pairs(self):
        rest = LOOSE_REST
        wrong = odd_values() + [0, (), (1, 1), ((1, 1),), [(1, 1), (0, 1)], ((1, 1), (0, 2)), ((1, 1), (0, 1), (0, 1))]
        for value in wrong:
            self.assertIs(is_rest_with(LOOSE, LOOSE_PROPS, changed(rest, 1, value)), False, value)
            self.assertIs(is_rest_with(LOOSE, LOOSE_PROPS, changed(rest, 0, value)), False, value)

    def test_wrong_rests(self):
        rest = LOOSE_REST
        values = odd_values() + [0, list(rest), "abc", {0: rest}, rest[0], nested(30), nested(30, list), LOOSE_MOTION]
        for value in values + [[list(part) for part in rest], Odd(), (None, None, None)]:
            self.assertIs(is_rest_with(LOOSE, LOOSE_PROPS, value), False, value)
            self.assertIs(is_rest_with((), (), value), value == () and isinstance(value, tuple), value)

    def test_bounds_of_fractions(self):
        # One prop at each of three places in one row: the shares may be changed a little together.
        for bottom in (LIMIT - 1, LIMIT, LIMIT + 1):
            part = Fraction(1, bottom)
            pushes = (1 - part, 2 * part, 1 - part)
            rest = tuple(pair_of(push) for push in pushes)
            props = ((0, 3), (0, 4), (0, 5))
            self.assertTrue(slow_is_rest(PLANK, rest, props))
            self.assertIs(is_rest_with(PLANK, props, rest), bottom <= LIMIT, bottom)
        pile = ((0, 1, 8, 1, 3),)
        for top in (LIMIT - 1, LIMIT, LIMIT + 1):
            share = Fraction(top, LIMIT // 2 - 1)
            rest = (pair_of((3 - share) / 2), pair_of(share), pair_of((3 - share) / 2))
            self.assertEqual(all(entry <= LIMIT for fraction in rest for entry in fraction), top <= LIMIT)
            self.assertTrue(slow_is_rest(pile, rest, ((0, 3), (0, 4), (0, 5))))
            self.assertIs(is_rest_with(pile, ((0, 3), (0, 4), (0, 5)), rest), top <= LIMIT, top)

    def test_changed_rests_as_the_document_tells(self):
        draw = random.Random(101)
        good = 0
        for pile in PILES:
            props = drawn_props(draw, pile, 4)
            if not props or not stands_with(pile, props):
                continue
            rest = rest_with(pile, props)
            at = len(rest) - 1 - draw.randrange(len(props))
            share = pair_of(Fraction(*rest[at]) + draw.choice((0, 1, Fraction(1, 2), Fraction(-1, 3))))
            other = changed(rest, at, share)
            told = is_rest_with(pile, props, other)
            self.assertIs(told, slow_is_rest(pile, other, props), (pile, props, other))
            good += told
        self.assertGreater(good, 20)


class IsMotionWithTest(unittest.TestCase):
    def test_example(self):
        self.assertIs(is_motion_with(LOOSE, LOOSE_PROPS, LOOSE_MOTION), False)

    def test_more_of_the_example(self):
        # Block 1 sinks by -4 + x at each place x.
        for place in range(3, 8):
            self.assertIs(is_motion_with(LOOSE, ((1, place),), LOOSE_MOTION), place <= 4, place)
        for place in range(5):
            self.assertIs(is_motion_with(LOOSE, ((0, place),), LOOSE_MOTION), True)
            self.assertIs(is_motion_with(LOOSE, ((0, place), (1, 4)), LOOSE_MOTION), True)
            self.assertIs(is_motion_with(LOOSE, ((0, place), (1, 5)), LOOSE_MOTION), False)

    def test_it_must_be_a_motion(self):
        self.assertIs(is_motion_with(LOOSE, ((1, 4),), ((0, 0), (-5, 1))), False)
        self.assertIs(is_motion_with(LOOSE, ((1, 4),), ((0, 0), (0, 0))), False)
        self.assertIs(is_motion_with(LOOSE, ((1, 4),), ((0, 0), (-3, 1))), False)
        self.assertIs(is_motion_with(LOOSE, ((1, 4),), ((1, 0), (-4, 1))), False)
        self.assertIs(is_motion_with(SURE, ((1, 4),), ((0, 0), (-4, 1))), False)
        # It rises everywhere at the props, and sinks nowhere.
        self.assertIs(is_motion_with(PLANK, ((0, 0), (0, 8)), ((-1, 0),)), False)

    def test_each_prop_counts(self):
        pile = ((0, 5, 4, 1, 1), (10, 5, 4, 1, 1), (20, 5, 4, 1, 1))
        motion = ((0, 0), (-12, 1), (1, 0))
        for props, good in (
            ((), True), (((0, 0), (0, 4)), True), (((1, 12),), True), (((1, 13),), False), (((2, 20),), False),
            (((0, 0), (1, 10), (1, 11), (1, 12)), True), (((0, 0), (1, 10), (1, 11), (1, 14)), False),
            (((1, 10), (2, 24)), False), (((0, 1), (0, 2), (0, 3), (1, 12)), True),
        ):
            self.assertIs(is_motion_with(pile, props, motion), good, props)

    def test_bounds_of_integers(self):
        for number, good in ((LIMIT, True), (LIMIT + 1, False)):
            self.assertIs(is_motion_with(PLANK, (), ((number, 0),)), good)
            self.assertIs(is_motion_with(PLANK, ((0, 0),), ((0, number),)), good)
            self.assertIs(is_motion_with(PLANK, ((0, 0), (0, 1)), ((-number, number),)), good)
            self.assertIs(is_motion_with(((-4, 1, 4, 1, 1),), ((0, 0),), ((0, -number),)), good)

    def test_wrong_integers(self):
        for value in wrong_integers():
            self.assertIs(is_motion_with(PLANK, ((0, 0),), ((value, 1),)), False, value)
            self.assertIs(is_motion_with(PLANK, (), ((1, value),)), False, value)

    def test_wrong_motions(self):
        values = odd_values() + [0, 1, "ab", (), list(LOOSE_MOTION), LOOSE_MOTION[:1], LOOSE_MOTION[1:], Odd()]
        values += [LOOSE_MOTION + ((0, 0),), (LOOSE_MOTION,), {0: LOOSE_MOTION}, [list(pair) for pair in LOOSE_MOTION]]
        values += [nested(30), nested(30, list), ((0, 0), [-4, 1]), ((0, 0), (-4,)), ((0, 0), (-4, 1, 0)), (0, 0)]
        for value in values:
            for props in ((), ((1, 4),), LOOSE_PROPS):
                self.assertIs(is_motion_with(LOOSE, props, value), False, value)

    def test_props_that_do_not_touch_it(self):
        draw = random.Random(102)
        found = {True: 0, False: 0}
        for pile in TIPPING:
            motion = some_motion(pile)
            for prop in all_props(pile):
                sinks = motion[prop[0]][0] + motion[prop[0]][1] * prop[1] > 0
                self.assertIs(is_motion_with(pile, (prop,), motion), not sinks)
                found[sinks] += 1
            for _ in range(4):
                props = drawn_props(draw, pile, draw.randint(0, 8))
                sinks = any(motion[number][0] + motion[number][1] * place > 0 for number, place in props)
                self.assertIs(is_motion_with(pile, props, motion), not sinks, (pile, props))
                self.assertIs(slow_is_motion(pile, motion, props), not sinks)
        self.assertGreater(min(found.values()), 500)

    def test_changed_motions_as_the_document_tells(self):
        draw = random.Random(103)
        for pile in TIPPING:
            motion = some_motion(pile)
            at = draw.randrange(len(pile))
            pair = (motion[at][0] + draw.randint(-4, 4), motion[at][1] + draw.randint(-1, 1))
            other = changed(motion, at, pair)
            props = drawn_props(draw, pile, draw.randint(0, 2))
            self.assertIs(is_motion_with(pile, props, other), slow_is_motion(pile, other, props), (pile, props, other))


class OffersTest(unittest.TestCase):
    def test_examples(self):
        self.assertIs(are_offers(LOOSE, (((1, 7), 2),)), True)
        self.assertEqual(price_of(LOOSE, (((1, 7), 2),), ((1, 7),)), 2)

    def test_up_to_6_offers(self):
        pile = ((0, 0, 8, 1, 1),)
        for many in range(9):
            offers = tuple(((0, place), 1) for place in range(many))
            self.assertIs(are_offers(pile, offers), many <= 6, many)

    def test_prices_1_and_9_and_one_beyond_them(self):
        for price in range(-2, 13):
            self.assertIs(are_offers(LOOSE, (((1, 7), price),)), 1 <= price <= 9, price)
            self.assertIs(are_offers(LOOSE, (((1, 6), 1), ((1, 7), price))), 1 <= price <= 9, price)
            self.assertIs(are_offers(LOOSE, (((1, 6), price), ((1, 7), 1))), 1 <= price <= 9, price)

    def test_places_at_the_ends_and_beyond_them(self):
        for place in range(1, 10):
            self.assertIs(are_offers(LOOSE, (((1, place), 2),)), 3 <= place <= 7, place)
        for number in range(-3, 4):
            self.assertIs(are_offers(LOOSE, (((number, 3), 2),)), number in (0, 1), number)

    def test_ascending_with_different_props(self):
        self.assertIs(are_offers(LOOSE, (((0, 1), 9), ((0, 2), 1), ((1, 3), 1), ((1, 4), 1))), True)
        for offers in (
            (((1, 7), 1), ((1, 7), 2)), (((1, 7), 2), ((1, 7), 2)), (((1, 7), 1), ((1, 6), 2)),
            (((1, 3), 1), ((0, 4), 9)), (((0, 4), 1), ((1, 3), 1), ((1, 3), 2)),
            (((0, 1), 1), ((0, 1), 9), ((1, 3), 1)), (((0, 1), 9), ((0, 1), 1), ((1, 3), 1)),
        ):
            self.assertIs(are_offers(LOOSE, offers), False, offers)

    def test_without_blocks_and_without_offers(self):
        self.assertIs(are_offers((), ()), True)
        self.assertIs(are_offers((), (((0, 0), 1),)), False)
        for pile in KNOWN:
            self.assertIs(are_offers(pile, ()), True)
            self.assertEqual(price_of(pile, (), ()), 0)

    def test_wrong_values(self):
        for value in wrong_offers():
            self.assertIs(are_offers(LOOSE, value), False, value)

    def test_prices_are_summed_up(self):
        pile = ((0, 0, 8, 1, 1),)
        for bought in subsets([prop for prop, _ in SIX]):
            self.assertEqual(price_of(pile, SIX, bought), sum(1 + place for _, place in bought), bought)
        dear = tuple((prop, 9) for prop, _ in SIX)
        self.assertEqual(price_of(pile, dear, tuple(prop for prop, _ in SIX)), 54)

    def test_only_some_of_the_offered_props(self):
        pile = ((0, 0, 8, 1, 1), (9, 0, 8, 1, 1))
        for props in (((0, 6),), ((0, 7),), ((1, 9),), ((0, 0), (0, 6)), ((0, 0), (0, 0)), ((0, 1), (0, 0)), EIGHT,
                      EIGHT[:7], EIGHT[1:], tuple(SIX), SIX[:1], (SIX[0][0], SIX[1])):
            self.assertIs(raised(price_of, pile, SIX, props), InvalidProps, props)
        self.assertIs(raised(price_of, pile, (), ((0, 0),)), InvalidProps)
        self.assertIs(raised(price_of, (), (), ((0, 0),)), InvalidProps)


class CheapestTest(unittest.TestCase):
    def test_examples(self):
        self.assertEqual(least_price(LOOSE, LOOSE_OFFERS), 2)
        self.assertEqual(all_cheapest(LOOSE, LOOSE_OFFERS), [((1, 7),)])
        self.assertEqual(sure_props(LOOSE, (((1, 6), 1), ((1, 7), 1))), [])

    def test_more_of_the_examples(self):
        self.assertEqual(all_cheapest(LOOSE, (((1, 6), 1), ((1, 7), 1))), [((1, 6),), ((1, 7),)])
        self.assertEqual(sure_props(LOOSE, LOOSE_OFFERS), [(1, 7)])
        self.assertEqual(least_price(LOOSE, (((1, 6), 9), ((1, 7), 9))), 9)

    def test_a_pile_that_stands(self):
        for pile in (SURE, BRIDGE, ARCH, row_of_blocks(6), ()):
            for offers in ((), drawn_offers(random.Random(1), pile, 6)):
                self.assertEqual(least_price(pile, offers), 0)
                self.assertEqual(all_cheapest(pile, offers), [()])
                self.assertEqual(sure_props(pile, offers), [])

    def test_no_cure_at_all(self):
        for offers in ((), (((1, 4), 1),), (((0, 0), 1), ((0, 4), 1), ((1, 3), 9), ((1, 4), 1))):
            self.assertIsNone(least_price(LOOSE, offers))
            self.assertEqual(all_cheapest(LOOSE, offers), [])
            self.assertEqual(sure_props(LOOSE, offers), [])

    def test_a_plank_in_the_air(self):
        offers = (((0, 0), 2), ((0, 3), 1), ((0, 4), 4), ((0, 6), 2), ((0, 8), 2))
        self.assertEqual(least_price(PLANK, offers), 3)
        self.assertEqual(all_cheapest(PLANK, offers), [((0, 3), (0, 6)), ((0, 3), (0, 8))])
        self.assertEqual(sure_props(PLANK, offers), [(0, 3)])
        offers = changed(offers, 1, ((0, 3), 2))
        self.assertEqual(least_price(PLANK, offers), 4)
        found = [((0, 0), (0, 6)), ((0, 0), (0, 8)), ((0, 3), (0, 6)), ((0, 3), (0, 8)), ((0, 4),)]
        self.assertEqual(all_cheapest(PLANK, offers), found)
        self.assertEqual(sure_props(PLANK, offers), [])

    def test_all_six_offers(self):
        pile = tuple((3 * k, 5, 2, 1, 1) for k in range(6))
        offers = tuple(((k, 3 * k + 1), 9) for k in range(6))
        props = tuple(prop for prop, _ in offers)
        self.assertEqual(least_price(pile, offers), 54)
        self.assertEqual(all_cheapest(pile, offers), [props])
        self.assertEqual(sure_props(pile, offers), list(props))
        self.assertIsNone(least_price(pile, offers[1:]))
        self.assertEqual(all_cheapest(pile, offers[1:]), [])

    def test_cheap_ones_together_against_a_dear_one(self):
        for price in range(1, 10):
            offers = (((0, 0), 3), ((0, 4), price), ((0, 8), 3))
            self.assertEqual(least_price(PLANK, offers), min(6, price))
            cheapest = [((0, 0), (0, 8))] * (price >= 6) + [((0, 4),)] * (price <= 6)
            self.assertEqual(all_cheapest(PLANK, offers), cheapest)

    def test_against_all_bought_props(self):
        draw = random.Random(104)
        several, none, sure, many_props = 0, 0, 0, 0
        for pile in TIPPING + PILES[:40]:
            make = useful_offers if not stands(pile) and draw.random() < 0.8 else drawn_offers
            offers = make(draw, pile, draw.choice((2, 4, 5, 6)), draw.choice((2, 9)))
            cures = slow_cures(pile, offers)
            least = min((price for price, _ in cures), default=None)
            cheapest = sorted(cure for price, cure in cures if price == least)
            self.assertEqual(least_price(pile, offers), least, (pile, offers))
            self.assertEqual(all_cheapest(pile, offers), cheapest, (pile, offers))
            everywhere = [prop for prop, _ in offers if cheapest and all(prop in cure for cure in cheapest)]
            self.assertEqual(sure_props(pile, offers), everywhere, (pile, offers))
            several += len(cheapest) > 1
            none += least is None
            sure += bool(everywhere) and len(cheapest) > 1
            many_props += bool(cheapest) and len(cheapest[0]) > 1
        self.assertGreater(min(several, none, many_props), 15)
        self.assertGreater(sure, 2)

    def test_cures_are_cures(self):
        draw = random.Random(105)
        for pile in TIPPING:
            offers = useful_offers(draw, pile, 6)
            for cure in all_cheapest(pile, offers):
                self.assertTrue(slow_stands(pile, weights_of(pile), (), cure), (pile, cure))
                self.assertEqual(price_of(pile, offers, cure), least_price(pile, offers))
                for at in range(len(cure)):
                    self.assertFalse(slow_stands(pile, weights_of(pile), (), without(cure, at)), (pile, cure))

    def test_dearer_offers_never_make_it_less(self):
        draw = random.Random(106)
        changes = 0
        for pile in TIPPING:
            offers = useful_offers(draw, pile, 5, 8)
            dearer = tuple((prop, draw.randint(price, 9)) for prop, price in offers)
            told, more = least_price(pile, offers), least_price(pile, dearer)
            self.assertEqual(told is None, more is None)
            if told is not None:
                self.assertLessEqual(told, more, (pile, offers, dearer))
                changes += told < more
            fewer = least_price(pile, offers[1:])
            self.assertTrue(fewer is None or told is not None and told <= fewer, (pile, offers))
        self.assertGreater(changes, 20)

    def test_each_cure_has_a_prop_that_touches_the_motion(self):
        draw = random.Random(107)
        for pile in TIPPING[::2]:
            offers = useful_offers(draw, pile, 4)
            cures = [cure for _, cure in slow_cures(pile, offers)]
            for bought in subsets([prop for prop, _ in offers]):
                motion = motion_with(pile, bought)
                self.assertIs(motion is None, bought in cures)
                for cure in cures:
                    if motion is not None and set(bought) <= set(cure):
                        self.assertIs(is_motion_with(pile, cure, motion), False)

    def test_mirrored_piles(self):
        draw = random.Random(108)
        for pile in TIPPING:
            if is_pile(mirrored(pile)):
                offers = useful_offers(draw, pile, 5, 3)
                other = tuple(sorted(((number, -place), price) for (number, place), price in offers))
                self.assertEqual(least_price(mirrored(pile), other), least_price(pile, offers))
                cheapest = sorted(mirrored_props(cure) for cure in all_cheapest(pile, offers))
                self.assertEqual(all_cheapest(mirrored(pile), other), cheapest)
                self.assertEqual(sure_props(mirrored(pile), other), list(mirrored_props(sure_props(pile, offers))))

    def test_two_piles_side_by_side(self):
        draw = random.Random(109)
        small = [pile for pile in dropped_piles(250, 110) if len(pile) <= 3 and not stands(pile)]
        found = 0
        for first, second in zip(small, small[1:]):
            both = side_by_side(first, second)
            if both is None:
                continue
            blocks, left, right = both
            many = len(first)
            one, other = useful_offers(draw, first, 3, 3), useful_offers(draw, second, 3, 3)
            offers = [((k, place + left), price) for (k, place), price in one]
            offers += [((k + many, place + right), price) for (k, place), price in other]
            prices = least_price(first, one), least_price(second, other)
            told = None if None in prices else sum(prices)
            self.assertEqual(least_price(blocks, tuple(offers)), told)
            cheapest = [
                tuple((k, place + left) for k, place in cure) + tuple((k + many, place + right) for k, place in more)
                for cure in all_cheapest(first, one) for more in all_cheapest(second, other)
            ]
            self.assertEqual(all_cheapest(blocks, tuple(offers)), sorted(cheapest))
            found += told is not None
        self.assertGreater(found, 5)

    def test_new_lists_each_time(self):
        for function in (all_cheapest, sure_props):
            for offers in (LOOSE_OFFERS, ()):
                first = function(LOOSE, offers)
                self.assertIs(type(first), list)
                before = list(first)
                first.append(9)
                self.assertEqual(function(LOOSE, offers), before)


class WrongArgumentsTest(unittest.TestCase):
    def test_wrong_piles(self):
        for value in wrong_piles():
            for props in ((), LOOSE_PROPS, None, (((1, 7), 2),)):
                for function in (are_props, stands_with, are_offers, least_price, all_cheapest, sure_props):
                    self.assertIs(raised(function, value, props), InvalidPile, value)
                for function in (is_rest_with, is_motion_with, price_of):
                    self.assertIs(raised(function, value, props, None), InvalidPile, value)

    def test_wrong_props(self):
        for value in wrong_props():
            self.assertIs(raised(stands_with, LOOSE, value), InvalidProps, value)
            for other in (LOOSE_REST, LOOSE_MOTION, (), None):
                self.assertIs(raised(is_rest_with, LOOSE, value, other), InvalidProps, value)
                self.assertIs(raised(is_motion_with, LOOSE, value, other), InvalidProps, value)
            self.assertIs(raised(price_of, LOOSE, (((1, 4), 1), ((1, 7), 2)), value), InvalidProps, value)

    def test_wrong_offers(self):
        for value in wrong_offers():
            for function in (least_price, all_cheapest, sure_props):
                self.assertIs(raised(function, LOOSE, value), InvalidOffers, value)
            for props in ((), LOOSE_PROPS, ((1, 8),), None):
                self.assertIs(raised(price_of, LOOSE, value, props), InvalidOffers, value)

    def test_true_and_false_are_not_integers(self):
        self.assertIs(are_props(LOOSE, ((0, 1),)), True)
        for props in (((False, 1),), ((0, True),), ((True, 4),), ((0, False),)):
            self.assertIs(are_props(LOOSE, props), False)
            self.assertIs(raised(stands_with, LOOSE, props), InvalidProps)
            self.assertIs(are_offers(LOOSE, ((props[0], 1),)), False)
            self.assertIs(raised(price_of, LOOSE, (((0, 0), 1), ((0, 1), 1), ((1, 4), 1)), props), InvalidProps)
        self.assertIs(are_offers(LOOSE, (((1, 7), True),)), False)
        self.assertIs(raised(least_price, LOOSE, (((1, 7), True),)), InvalidOffers)
        self.assertIs(is_rest_with(PLANK, ((0, 4),), ((2, True),)), False)
        self.assertIs(is_motion_with(PLANK, (), ((True, 0),)), False)

    def test_not_modified(self):
        pile, props = [list(block) for block in LOOSE], [[1, 7]]
        offers, rest = [[[1, 7], 2]], [[[5, 4], [7, 4]], [[1, 1], [0, 1]], [1, 1]]
        before = copy.deepcopy((pile, props, offers, rest))
        self.assertIs(raised(are_props, pile, props), InvalidPile)
        self.assertIs(are_props(LOOSE, props), False)
        self.assertIs(are_offers(LOOSE, offers), False)
        self.assertIs(raised(stands_with, LOOSE, props), InvalidProps)
        for value in (rest, tuple(rest)):
            self.assertIs(is_rest_with(LOOSE, LOOSE_PROPS, value), False)
            self.assertIs(is_motion_with(LOOSE, LOOSE_PROPS, value), False)
        for function in (least_price, all_cheapest, sure_props):
            for value in (offers, tuple(offers), (tuple(offers[0]),)):
                self.assertIs(raised(function, LOOSE, value), InvalidOffers)
        self.assertIs(raised(price_of, LOOSE, LOOSE_OFFERS, props), InvalidProps)
        self.assertEqual((pile, props, offers, rest), before)


class InterfaceTest(unittest.TestCase):
    def test_defined_in_their_file(self):
        names = ("are_props", "stands_with", "is_rest_with", "is_motion_with", "are_offers", "price_of", "least_price",
                 "all_cheapest", "sure_props")
        for name in names:
            self.assertEqual(getattr(module, name).__module__, "blockpiles.props")

    def test_arguments_by_name(self):
        self.assertIs(are_props(pile=LOOSE, value=LOOSE_PROPS), True)
        self.assertIs(stands_with(pile=LOOSE, props=LOOSE_PROPS), True)
        self.assertIs(is_rest_with(pile=LOOSE, props=LOOSE_PROPS, value=None), False)
        self.assertIs(is_motion_with(pile=LOOSE, props=LOOSE_PROPS, value=LOOSE_MOTION), False)
        self.assertIs(are_offers(pile=LOOSE, value=LOOSE_OFFERS), True)
        self.assertEqual(price_of(pile=LOOSE, offers=LOOSE_OFFERS, props=LOOSE_PROPS), 2)
        self.assertEqual(least_price(pile=LOOSE, offers=LOOSE_OFFERS), 2)
        self.assertEqual(all_cheapest(pile=LOOSE, offers=LOOSE_OFFERS), [((1, 7),)])
        self.assertEqual(sure_props(pile=LOOSE, offers=LOOSE_OFFERS), [(1, 7)])

    def test_rests_and_motions_without_props_are_those_of_the_pile(self):
        for pile in KNOWN:
            if stands(pile):
                self.assertIs(is_rest(pile, some_rest(pile)), is_rest_with(pile, (), some_rest(pile)))
            else:
                self.assertIs(is_motion(pile, some_motion(pile)), is_motion_with(pile, (), some_motion(pile)))


if __name__ == "__main__":
    unittest.main()
