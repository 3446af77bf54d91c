"""Tests of held blocks, orders of building and spare blocks ([1] and [9])."""

import copy
import random
import unittest
from itertools import combinations, permutations
from math import factorial

from blockpiles import building
from blockpiles.building import (
    builds, count_orders, fewest_hands, fewest_held, first_order, spare_blocks, stands_held,
)
from blockpiles.errors import InvalidHeld, InvalidNumber, InvalidPile
from blockpiles.rests import stands
from tests.samples import (
    ARCH, BRIDGE, COUNTERWEIGHT, LOOSE, SEESAW, SURE,
    drawn_piles, dropped_piles, nested, odd_values, raised, row_of_blocks, without, wrong_numbers, wrong_piles,
)
from tests.slow import slow_fewest, slow_hands, slow_stands, weights_of

PILES = dropped_piles(60, 41) + drawn_piles(90, 42)
KNOWN = [(), SURE, LOOSE, BRIDGE, COUNTERWEIGHT, SEESAW]
AIR = tuple((3 * k, 5, 2, 1, 1) for k in range(6))
TOWER = tuple((0, k, 4, 1, 1) for k in range(6))


def all_held(pile):
    """All tuples of held blocks."""
    return [held for many in range(len(pile) + 1) for held in combinations(range(len(pile)), many)]


class HeldTest(unittest.TestCase):
    def test_example(self):
        self.assertIs(stands_held(LOOSE, (1,)), True)

    def test_more_of_the_example(self):
        self.assertEqual([stands_held(LOOSE, held) for held in ((), (0,), (0, 1))], [False, False, True])
        self.assertEqual([stands_held(SURE, held) for held in all_held(SURE)], [True] * 4)

    def test_without_blocks(self):
        self.assertIs(stands_held((), ()), True)
        for held in ((0,), (-1,), None, []):
            self.assertIs(raised(stands_held, (), held), InvalidHeld)

    def test_none_held(self):
        for pile in PILES + KNOWN:
            self.assertIs(stands_held(pile, ()), stands(pile), pile)

    def test_all_held(self):
        for pile in PILES + KNOWN + [AIR]:
            self.assertIs(stands_held(pile, tuple(range(len(pile)))), True, pile)

    def test_blocks_in_the_air(self):
        for held in all_held(AIR):
            self.assertIs(stands_held(AIR, held), len(held) == 6)

    def test_a_held_block_pushes_others_up_and_down(self):
        # What is held carries the block on it, and holds down the plank below it.
        self.assertIs(stands_held(((0, 5, 4, 1, 1), (0, 6, 4, 1, 9)), (0,)), True)
        self.assertIs(stands_held(((0, 5, 4, 1, 1), (0, 6, 4, 1, 9)), (1,)), False)
        light = COUNTERWEIGHT[:2] + ((0, 2, 1, 1, 1),)
        self.assertEqual([held for held in all_held(light) if len(held) == 1 and stands_held(light, held)], [(1,), (2,)])

    def test_a_held_block_does_not_pull(self):
        pile = ((0, 5, 4, 1, 1), (4, 5, 4, 1, 1), (0, 6, 1, 1, 1))
        self.assertEqual([stands_held(pile, held) for held in ((0,), (1,), (0, 1), (1, 2), (0, 2))],
                         [False, False, True, False, False])

    def test_more_held_still_stands(self):
        for pile in PILES:
            told = {held: stands_held(pile, held) for held in all_held(pile)}
            for held in told:
                for k in set(range(len(pile))) - set(held):
                    self.assertTrue(told[tuple(sorted(held + (k,)))] or not told[held], (pile, held, k))

    def test_as_the_slow_form_tells(self):
        draw = random.Random(43)
        for pile in PILES:
            for held in draw.sample(all_held(pile), min(8, 1 << len(pile))):
                self.assertIs(stands_held(pile, held), slow_stands(pile, weights_of(pile), held), (pile, held))


class FewestHeldTest(unittest.TestCase):
    def test_example(self):
        self.assertEqual(fewest_held(LOOSE), 1)

    def test_known_piles(self):
        self.assertEqual(fewest_held(()), 0)
        self.assertEqual(fewest_held(SURE), 0)
        self.assertEqual(fewest_held(ARCH), 0)
        self.assertEqual(fewest_held(TOWER), 0)
        self.assertEqual(fewest_held(TOWER[1:]), 1)
        self.assertEqual(fewest_held(without(BRIDGE, 0)), 1)

    def test_blocks_in_the_air(self):
        for many in range(7):
            self.assertEqual(fewest_held(AIR[:many]), many)
            self.assertEqual(fewest_held(AIR[:many] + row_of_blocks(6 - many)), many)

    def test_as_stands_held_tells(self):
        found = [0] * 7
        for pile in PILES:
            fewest = fewest_held(pile)
            self.assertEqual(fewest, min(len(held) for held in all_held(pile) if stands_held(pile, held)), pile)
            self.assertEqual(fewest, slow_fewest(pile), pile)
            found[fewest] += 1
        self.assertTrue(all(found[:4]), found)


class OrdersTest(unittest.TestCase):
    def test_examples(self):
        self.assertIs(builds(SURE, (1, 0), 1), True)
        self.assertIsNone(first_order(LOOSE, 0))
        self.assertEqual(count_orders(SURE, 0), 1)
        self.assertEqual(fewest_hands(LOOSE), 1)

    def test_more_of_the_examples(self):
        self.assertEqual([builds(SURE, order, 0) for order in ((0, 1), (1, 0))], [True, False])
        self.assertEqual([builds(LOOSE, order, 0) for order in ((0, 1), (1, 0))], [False, False])
        self.assertEqual([first_order(SURE, 0), first_order(SURE[::-1], 0)], [(0, 1), (1, 0)])
        self.assertEqual([count_orders(SURE, 1), count_orders(LOOSE, 0), count_orders(LOOSE, 1)], [2, 0, 2])
        self.assertEqual([first_order(LOOSE, 1), fewest_hands(SURE)], [(0, 1), 0])

    def test_without_blocks(self):
        for hands in range(7):
            self.assertIs(builds((), (), hands), True)
            self.assertEqual(first_order((), hands), ())
            self.assertEqual(count_orders((), hands), 1)
        self.assertEqual(fewest_hands(()), 0)

    def test_the_whole_pile_is_a_beginning(self):
        # Up to the last block each beginning stands.
        pile = row_of_blocks(5) + ((-20, 1, 1, 1, 1),)
        self.assertIs(builds(pile, (0, 1, 2, 3, 4, 5), 0), True)
        pile = row_of_blocks(5) + ((-20, 2, 1, 1, 1),)
        self.assertIs(builds(pile, (0, 1, 2, 3, 4, 5), 0), False)
        self.assertIs(builds(pile, (0, 1, 2, 3, 4, 5), 1), True)

    def test_the_first_block_is_a_beginning(self):
        pile = ((0, 1, 4, 1, 1), (0, 0, 4, 1, 1))
        self.assertEqual([builds(pile, (0, 1), hands) for hands in range(3)], [False, True, True])
        self.assertEqual([builds(pile, (1, 0), hands) for hands in range(3)], [True, True, True])

    def test_towers(self):
        self.assertEqual(first_order(TOWER, 0), (0, 1, 2, 3, 4, 5))
        self.assertEqual(first_order(TOWER[::-1], 0), (5, 4, 3, 2, 1, 0))
        self.assertEqual(count_orders(TOWER, 0), 1)
        # With two hands there may be two pieces that do not reach down to the ground, each held by its lowest block.
        self.assertIs(builds(TOWER, (1, 3, 5, 0, 2, 4), 2), False)
        self.assertIs(builds(TOWER, (1, 3, 5, 0, 2, 4), 3), True)
        self.assertIs(builds(TOWER, (1, 3, 0, 5, 2, 4), 2), True)
        self.assertIs(builds(TOWER, (5, 4, 3, 2, 1, 0), 1), True)
        self.assertEqual(count_orders(TOWER, 6), 720)
        self.assertEqual(fewest_hands(TOWER), 0)

    def test_held_ones_are_unlike_for_each_beginning(self):
        # The held one is ever the lowest block up to now.
        self.assertIs(builds(((0, 7, 4, 1, 1), (0, 6, 4, 1, 1), (0, 5, 4, 1, 1)), (0, 1, 2), 1), True)
        self.assertIs(stands_held(((0, 7, 4, 1, 1), (0, 6, 4, 1, 1), (0, 5, 4, 1, 1)), (0,)), False)

    def test_blocks_beside_one_another(self):
        for many in range(7):
            pile = row_of_blocks(many)
            self.assertEqual(count_orders(pile, 0), factorial(many))
            self.assertEqual(first_order(pile, 0), tuple(range(many)))
            self.assertEqual(fewest_hands(pile), 0)

    def test_blocks_in_the_air(self):
        for many in range(7):
            pile = AIR[:many]
            self.assertEqual(fewest_hands(pile), many)
            self.assertEqual([count_orders(pile, hands) for hands in range(7)],
                             [factorial(many) * (hands >= many) for hands in range(7)])
            self.assertEqual([first_order(pile, hands) for hands in range(7)],
                             [tuple(range(many)) if hands >= many else None for hands in range(7)])

    def test_an_arch(self):
        # Each pillar comes before its plank, and the highest block last. The one below it is light enough to lie on
        # the end of either plank alone: it may come at 3 times if one side is built first, else at 2.
        self.assertEqual(fewest_hands(ARCH), 0)
        self.assertEqual(first_order(ARCH, 0), (0, 1, 2, 3, 4, 5))
        self.assertEqual(count_orders(ARCH, 0), 2 * 3 + 4 * 2)
        self.assertEqual(first_order(ARCH[::-1], 0), (4, 2, 1, 5, 3, 0))

    def test_a_pile_that_stands_but_needs_hands(self):
        # The plank tips without the counterweight, and this falls without the plank.
        self.assertIs(stands(COUNTERWEIGHT), True)
        self.assertEqual(fewest_hands(COUNTERWEIGHT), 1)
        self.assertEqual([first_order(COUNTERWEIGHT, hands) for hands in range(2)], [None, (0, 1, 2)])
        self.assertEqual([count_orders(COUNTERWEIGHT, hands) for hands in range(3)], [0, 6, 6])

    def test_0_and_6_hands_and_one_beyond_them(self):
        for pile in (SURE, LOOSE, BRIDGE, AIR):
            order = tuple(range(len(pile)))
            for hands in (0, 6):
                self.assertIsNone(raised(builds, pile, order, hands))
                self.assertIsNone(raised(first_order, pile, hands))
                self.assertIsNone(raised(count_orders, pile, hands))
            for hands in (-1, 7):
                self.assertIs(raised(builds, pile, order, hands), InvalidNumber)
                self.assertIs(raised(first_order, pile, hands), InvalidNumber)
                self.assertIs(raised(count_orders, pile, hands), InvalidNumber)
            self.assertEqual(count_orders(pile, 6), factorial(len(pile)))

    def test_six_hands_build_everything(self):
        draw = random.Random(44)
        for pile in PILES:
            order = tuple(draw.sample(range(len(pile)), len(pile)))
            self.assertIs(builds(pile, order, 6), True)
            self.assertIs(builds(pile, order, len(pile)), True)

    def test_first_and_number_of_those_that_build(self):
        for pile in [pile for pile in PILES if len(pile) < 6] + [pile for pile in PILES if len(pile) == 6][:4]:
            orders = list(permutations(range(len(pile))))
            for hands in range(3) if len(pile) < 6 else (fewest_hands(pile),):
                taken = [order for order in orders if builds(pile, order, hands)]
                self.assertEqual(count_orders(pile, hands), len(taken), (pile, hands))
                self.assertEqual(first_order(pile, hands), min(taken, default=None), (pile, hands))

    def test_with_more_hands_no_fewer_orders(self):
        for pile in PILES:
            counts = [count_orders(pile, hands) for hands in range(7)]
            self.assertEqual(counts, sorted(counts), pile)
            self.assertEqual(counts[len(pile)], factorial(len(pile)))
            fewest = fewest_hands(pile)
            self.assertTrue(counts[fewest] > 0 and not any(counts[:fewest]), pile)
            self.assertGreaterEqual(fewest, fewest_held(pile))

    def test_as_the_slow_form_tells(self):
        draw = random.Random(45)
        more = 0
        for pile in PILES[::3] + [ARCH, SEESAW, COUNTERWEIGHT, BRIDGE]:
            needed = slow_hands(pile)
            self.assertEqual(fewest_hands(pile), min(needed.values()), pile)
            for hands in range(7):
                good = [order for order in needed if needed[order] <= hands]
                self.assertEqual(count_orders(pile, hands), len(good), (pile, hands))
                self.assertEqual(first_order(pile, hands), min(good, default=None), (pile, hands))
                for order in draw.sample(sorted(needed), min(4, len(needed))):
                    self.assertIs(builds(pile, order, hands), order in good, (pile, order, hands))
            more += min(needed.values()) > fewest_held(pile)
        self.assertGreater(more, 1)


class SpareBlocksTest(unittest.TestCase):
    def test_example(self):
        self.assertEqual(spare_blocks(SURE), [1])

    def test_known_piles(self):
        self.assertEqual(spare_blocks(()), [])
        self.assertEqual(spare_blocks(row_of_blocks(6)), [0, 1, 2, 3, 4, 5])
        self.assertEqual(spare_blocks(TOWER), [5])
        self.assertEqual(spare_blocks(AIR), [])
        self.assertEqual(spare_blocks(BRIDGE), [2])
        self.assertEqual(spare_blocks(COUNTERWEIGHT), [])
        self.assertEqual(spare_blocks(((0, 0, 8, 1, 1), (0, 1, 8, 1, 1))), [1])

    def test_a_pile_that_tips_may_have_spare_blocks(self):
        self.assertEqual(spare_blocks(LOOSE), [1])
        self.assertEqual(spare_blocks(AIR[:1]), [0])
        self.assertEqual(spare_blocks(row_of_blocks(5) + AIR[:1]), [5])

    def test_what_stands_without_the_block(self):
        for pile in PILES:
            found = [k for k in range(len(pile)) if stands(without(pile, k))]
            self.assertEqual(spare_blocks(pile), found, pile)

    def test_a_new_list_each_time(self):
        first = spare_blocks(SURE)
        first.append(9)
        self.assertEqual(spare_blocks(SURE), [1])
        self.assertIs(type(first), list)


class WrongArgumentsTest(unittest.TestCase):
    def test_wrong_piles(self):
        for value in wrong_piles():
            for function in (fewest_held, fewest_hands, spare_blocks):
                self.assertIs(raised(function, value), InvalidPile, value)
            for held in ((), (0,), (9,), None):
                self.assertIs(raised(stands_held, value, held), InvalidPile, value)
            for hands in (0, 7, None):
                self.assertIs(raised(first_order, value, hands), InvalidPile, value)
                self.assertIs(raised(count_orders, value, hands), InvalidPile, value)
                for order in ((), (0, 1), None):
                    self.assertIs(raised(builds, value, order, hands), InvalidPile, value)

    def test_wrong_held(self):
        values = odd_values() + [0, 1, [0], [1], [0, 1], "01", b"01", {0}, {0: 1}, range(2), ((0,), (1,)), ((0, 1),)]
        values += [(1, 0), (0, 0), (1, 1), (0, 1, 1), (0, 0, 1), (0, 1, 0), (2,), (-1,), (0, 2), (-1, 0), (0, 1, 2)]
        values += [(value,) for value in wrong_numbers()] + [(0, value) for value in wrong_numbers()]
        values += [(value, 1) for value in wrong_numbers()] + [nested(30), nested(30, list), (nested(29, list), 1)]
        for value in values:
            for pile in (SURE, LOOSE):
                self.assertIs(raised(stands_held, pile, value), InvalidHeld, value)

    def test_held_numbers_at_and_beyond_the_last_one(self):
        for pile in (SURE, LOOSE, BRIDGE, AIR):
            last = len(pile) - 1
            for held in ((0,), (last,), (0, last)):
                self.assertIsNone(raised(stands_held, pile, held))
            for held in ((-1,), (last + 1,), (0, last + 1), (-1, 0), (last, last), (last, 0)):
                self.assertIs(raised(stands_held, pile, held), InvalidHeld, held)

    def test_wrong_orders(self):
        values = odd_values() + [0, 1, (), (0,), (1,), (0, 0), (1, 1), (0, 1, 0), (0, 1, 2), (1, 2), (-1, 0), (0, 2)]
        values += [[0, 1], [1, 0], "01", b"01", {0, 1}, {0: 1, 1: 0}, range(2), ((0, 1),), ((0,), (1,)), (-2, -1)]
        values += [(value, 1) for value in wrong_numbers()] + [(0, value) for value in wrong_numbers()]
        values += [(value, value) for value in wrong_numbers()] + [nested(30), nested(30, list)]
        for value in values:
            for pile in (SURE, LOOSE):
                for hands in (0, 6, 7, None):
                    self.assertIs(raised(builds, pile, value, hands), InvalidNumber, value)
        for value in ((0,), (None,), [], None, 0):
            self.assertIs(raised(builds, (), value, 0), InvalidNumber, value)

    def test_wrong_hands(self):
        for value in wrong_numbers() + [-1, 7, (), nested(30), nested(30, list)]:
            for pile in (SURE, LOOSE, ()):
                order = tuple(range(len(pile)))
                self.assertIs(raised(builds, pile, order, value), InvalidNumber, value)
                self.assertIs(raised(first_order, pile, value), InvalidNumber, value)
                self.assertIs(raised(count_orders, pile, value), InvalidNumber, value)

    def test_true_and_false_are_not_integers(self):
        for value in (True, False):
            self.assertIs(raised(stands_held, SURE, (value,)), InvalidHeld)
            self.assertIs(raised(builds, SURE, (0, 1), value), InvalidNumber)
            self.assertIs(raised(first_order, SURE, value), InvalidNumber)
            self.assertIs(raised(count_orders, SURE, value), InvalidNumber)
        self.assertIs(raised(builds, SURE, (False, True), 1), InvalidNumber)

    def test_not_modified(self):
        values = [[list(block) for block in SURE], [1, 0], ([1], [0]), [2]]
        before = copy.deepcopy(values)
        for value in values:
            self.assertIs(raised(stands_held, SURE, value), InvalidHeld)
            self.assertIs(raised(builds, SURE, value, 1), InvalidNumber)
            self.assertIs(raised(builds, SURE, (1, 0), value), InvalidNumber)
            self.assertIs(raised(first_order, SURE, value), InvalidNumber)
            for function in (fewest_held, fewest_hands, spare_blocks):
                self.assertIs(raised(function, value), InvalidPile)
        self.assertEqual(values, before)


class InterfaceTest(unittest.TestCase):
    def test_defined_in_their_file(self):
        names = ("stands_held", "fewest_held", "builds", "first_order", "count_orders", "fewest_hands", "spare_blocks")
        for name in names:
            self.assertEqual(getattr(building, name).__module__, "blockpiles.building")

    def test_arguments_by_name(self):
        self.assertIs(stands_held(pile=LOOSE, held=(1,)), True)
        self.assertEqual(fewest_held(pile=LOOSE), 1)
        self.assertIs(builds(pile=SURE, order=(1, 0), hands=1), True)
        self.assertEqual(first_order(pile=SURE, hands=0), (0, 1))
        self.assertEqual(count_orders(pile=SURE, hands=0), 1)
        self.assertEqual(fewest_hands(pile=LOOSE), 1)
        self.assertEqual(spare_blocks(pile=SURE), [1])


if __name__ == "__main__":
    unittest.main()
