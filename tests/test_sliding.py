"""Tests of pushed blocks ([1], [3] and [10])."""

import copy
import unittest

from blockpiles import sliding
from blockpiles.errors import InvalidNumber, InvalidPile, InvalidSide, Tips
from blockpiles.piles import is_pile, mirrored
from blockpiles.rests import stands
from blockpiles.sliding import farthest
from tests.samples import (
    ARCH, BRIDGE, COUNTERWEIGHT, LOOSE, SEESAW, SURE,
    changed, drawn_piles, dropped_piles, nested, raised, row_of_blocks, wrong_numbers, wrong_piles,
)
from tests.slow import slow_farthest

PILES = [pile for pile in dropped_piles(60, 61) + drawn_piles(90, 62) if stands(pile)]
SIDES = (1, -1)


def both(pile, block):
    """How far a block can be pushed to the right, and how far to the left."""
    return (farthest(pile, block, 1), farthest(pile, block, -1))


class FarthestTest(unittest.TestCase):
    def test_example(self):
        self.assertEqual(farthest(SURE, 1, -1), 4)

    def test_more_of_the_example(self):
        # Block 1 is at the very edge of block 0, and block 0 can be pushed below block 1 until this is at its left.
        self.assertEqual(both(SURE, 1), (0, 4))
        self.assertEqual(both(SURE, 0), (4, 0))

    def test_a_block_alone_on_the_ground(self):
        for left in (-20, -3, 0, 20):
            self.assertEqual(both(((left, 0, 3, 1, 1),), 0), (40, 40))

    def test_lefts_beyond_the_bounds_of_blocks(self):
        for left, side in ((20, 1), (19, 1), (-20, -1), (-19, -1)):
            pile = ((left, 0, 8, 1, 1), (0, 0, 1, 1, 1))
            self.assertEqual(farthest(pile, 0, side), 40)
            # The block that is pushed tips though one stands where it was.
            below = ((left, 0, 8, 1, 1), (left, 1, 8, 1, 1))
            self.assertEqual([farthest(below, k, side) for k in range(2)], [4, 4])

    def test_up_to_a_block_beside_it(self):
        for gap in (0, 1, 38, 39):
            pile = ((-20, 0, 1, 1, 1), (-19 + gap, 0, 1, 1, 1))
            self.assertEqual(both(pile, 0), (gap, 40))
            self.assertEqual(both(pile, 1), (40, gap))

    def test_sides_and_corners_may_meet(self):
        self.assertEqual(both(((0, 0, 2, 2, 1), (5, 0, 1, 1, 1), (-9, 0, 3, 1, 1)), 0), (3, 6))
        self.assertEqual(both(((0, 0, 2, 2, 1), (2, 0, 1, 1, 1), (-1, 0, 1, 1, 1)), 0), (0, 0))
        # The block on the pillar is as high as the top of the one that passes below it.
        pile = ((0, 0, 2, 2, 1), (4, 0, 1, 2, 1), (3, 2, 3, 1, 9))
        self.assertEqual(both(pile, 0), (2, 40))
        self.assertEqual(both(changed(pile, 0, (1, 0, 2, 2, 1)), 0), (1, 40))
        self.assertEqual(both(changed(pile, 0, (1, 0, 1, 2, 1)), 0), (2, 40))

    def test_no_way_through_another_block(self):
        pile = ((0, 0, 1, 1, 1), (1, 0, 1, 1, 1), (-4, 0, 1, 4, 1))
        self.assertEqual(both(pile, 0), (0, 3))
        self.assertEqual(both(pile, 1), (40, 0))
        self.assertEqual(both(pile, 2), (3, 40))

    def test_it_may_not_tip_on_the_way(self):
        # The block would stand on the other pillar again.
        pile = ((0, 0, 2, 1, 1), (4, 0, 2, 1, 1), (0, 1, 2, 1, 1))
        self.assertEqual(both(pile, 2), (1, 1))
        self.assertEqual(both(changed(pile, 1, (2, 0, 2, 1, 1)), 2), (3, 1))
        self.assertEqual(both(changed(pile, 1, (3, 0, 2, 1, 1)), 2), (4, 1))

    def test_those_on_it_stay(self):
        # Block 0 slides below block 1 until the middle of this, at 2, is no longer on it.
        pile = ((0, 0, 4, 1, 1), (0, 1, 4, 1, 9))
        self.assertEqual(both(pile, 0), (2, 2))
        pile = ((0, 0, 8, 1, 1), (0, 1, 2, 1, 1), (6, 1, 2, 1, 1))
        self.assertEqual(both(pile, 0), (1, 1))

    def test_blocks_that_hold_others(self):
        self.assertEqual(both(BRIDGE, 0), (4, 1))
        self.assertEqual(both(BRIDGE, 1), (1, 4))
        self.assertEqual(both(BRIDGE, 2), (4, 4))
        self.assertEqual([both(ARCH, k) for k in range(6)], [(4, 0), (0, 4), (0, 0), (0, 0), (0, 0), (0, 0)])
        self.assertEqual(both(COUNTERWEIGHT, 2), (1, 0))

    def test_without_blocks(self):
        for block in (-1, 0, 1):
            self.assertIs(raised(farthest, (), block, 1), InvalidNumber)

    def test_six_blocks(self):
        pile = row_of_blocks(6)
        self.assertEqual([farthest(pile, 0, -1), farthest(pile, 5, 1)], [40, 40])
        gaps = [pile[k + 1][0] - pile[k][0] - pile[k][2] for k in range(5)]
        self.assertEqual([farthest(pile, k, 1) for k in range(5)], gaps)
        self.assertEqual([farthest(pile, k + 1, -1) for k in range(5)], gaps)

    def test_mirrored_piles(self):
        for pile in PILES + [SURE, BRIDGE, ARCH, SEESAW]:
            if is_pile(mirrored(pile)):
                for block in range(len(pile)):
                    self.assertEqual(both(mirrored(pile), block), both(pile, block)[::-1], (pile, block))

    def test_shifted_piles(self):
        for pile in PILES:
            shifted = tuple((block[0] + 3,) + block[1:] for block in pile)
            if is_pile(shifted):
                for block in range(len(pile)):
                    self.assertEqual(both(shifted, block), both(pile, block), (pile, block))

    def test_mixed_piles(self):
        for pile in PILES:
            last = len(pile) - 1
            for block in range(len(pile)):
                self.assertEqual(both(pile[::-1], last - block), both(pile, block), (pile, block))

    def test_as_the_slow_form_tells(self):
        found = [0] * 41
        for pile in PILES:
            for block in range(len(pile)):
                for side in SIDES:
                    steps = farthest(pile, block, side)
                    self.assertEqual(steps, slow_farthest(pile, block, side), (pile, block, side))
                    found[steps] += 1
        self.assertTrue(min(found[:4]) > 10 and found[40] > 10, found)


class WrongArgumentsTest(unittest.TestCase):
    def test_wrong_piles(self):
        for value in wrong_piles():
            for block, side in ((0, 1), (9, 1), (0, 0), (None, None)):
                self.assertIs(raised(farthest, value, block, side), InvalidPile, value)

    def test_wrong_numbers(self):
        for value in wrong_numbers() + [-1, 2, (), SURE[0], nested(30), nested(30, list)]:
            for pile in (SURE, LOOSE):
                for side in (1, 0, None):
                    self.assertIs(raised(farthest, pile, value, side), InvalidNumber, value)

    def test_numbers_at_and_beyond_the_last_one(self):
        for pile in (SURE, BRIDGE, ARCH, row_of_blocks(6)):
            for block in (0, len(pile) - 1):
                self.assertIsNone(raised(farthest, pile, block, 1))
            for block in (-1, -len(pile), len(pile), len(pile) + 1):
                self.assertIs(raised(farthest, pile, block, 1), InvalidNumber)

    def test_wrong_sides(self):
        for value in wrong_numbers() + [0, 2, -2, (), (1,), "-1", "left", nested(30), nested(30, list)]:
            # The second pile tips, too, but this is looked at later.
            for pile in (SURE, LOOSE):
                self.assertIs(raised(farthest, pile, 0, value), InvalidSide, value)

    def test_true_and_false_are_not_integers(self):
        for value in (True, False):
            self.assertIs(raised(farthest, SURE, value, 1), InvalidNumber)
            self.assertIs(raised(farthest, SURE, 0, value), InvalidSide)

    def test_tips(self):
        for block in range(2):
            for side in SIDES:
                self.assertIs(raised(farthest, LOOSE, block, side), Tips)
        # One step to the left would do.
        self.assertIs(stands(SURE), True)
        self.assertIs(raised(farthest, ((0, 1, 1, 1, 1),), 0, 1), Tips)

    def test_not_modified(self):
        pile, number = [list(block) for block in SURE], [1]
        before = copy.deepcopy((pile, number))
        self.assertIs(raised(farthest, pile, number, number), InvalidPile)
        self.assertIs(raised(farthest, SURE, number, number), InvalidNumber)
        self.assertIs(raised(farthest, SURE, 0, number), InvalidSide)
        self.assertEqual((pile, number), before)


class InterfaceTest(unittest.TestCase):
    def test_defined_in_their_file(self):
        self.assertEqual(farthest.__module__, "blockpiles.sliding")
        self.assertIs(sliding.farthest, farthest)

    def test_arguments_by_name(self):
        self.assertEqual(farthest(pile=SURE, block=1, side=-1), 4)


if __name__ == "__main__":
    unittest.main()
