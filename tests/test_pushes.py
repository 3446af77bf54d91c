"""Tests of the least and the greatest push, and of the greatest weight more ([1], [2] and [7])."""

import copy
import random
import unittest
from fractions import Fraction
from math import gcd

from blockpiles import pushes
from blockpiles.errors import InvalidContact, InvalidNumber, InvalidPile, InvalidPlace, Tips
from blockpiles.piles import contacts, is_pile, mirrored
from blockpiles.pushes import greatest_more, greatest_push, least_push
from blockpiles.rests import some_rest, stands
from tests.samples import (
    ARCH, BRIDGE, COUNTERWEIGHT, LOOSE, SEESAW, SURE,
    changed, drawn_piles, dropped_piles, nested, pair_of, raised, row_of_blocks, without, wrong_numbers, wrong_piles,
)
from tests.slow import slow_loads, slow_pushes, slow_stands, weights_of

PUSHES = (least_push, greatest_push)
PILES = dropped_piles(150, 21) + drawn_piles(150, 22)


def places(block):
    """The places from the left of a block to its right."""
    return range(block[0], block[0] + block[2] + 1)


class FractionTest(unittest.TestCase):
    def check_fraction(self, value):
        self.assertIs(type(value), tuple)
        top, bottom = value
        self.assertEqual((type(top), type(bottom)), (int, int))
        self.assertTrue(top >= 0 and bottom > 0 and gcd(top, bottom) == 1, value)


class PushTest(FractionTest):
    def test_examples(self):
        self.assertEqual(greatest_push(SURE, 0), (4, 1))
        self.assertEqual(least_push(SURE, 0), (4, 1))
        self.assertEqual([push(SURE, 1) for push in PUSHES], [(2, 1), (2, 1)])

    def test_one_on_another_carries_all_that_is_above(self):
        pile = tuple((0, k, 4, 1, k + 1) for k in range(6))
        for contact in range(6):
            for push in PUSHES:
                self.assertEqual(push(pile, contact), (sum(range(contact + 1, 7)), 1))

    def test_blocks_beside_one_another(self):
        pile = row_of_blocks(6)
        for contact in range(6):
            for push in PUSHES:
                self.assertEqual(push(pile, contact), (contact + 1, 1))

    def test_a_beam_on_two_blocks_that_stand_apart(self):
        # The beam is held at places from 0 to 2 and from 6 to 8, its middle is at 4.
        for weight in range(1, 10):
            pile = changed(BRIDGE, 2, (0, 1, 8, 1, weight))
            self.assertEqual(contacts(pile), [(-1, 0, 0, 2), (-1, 1, 6, 8), (0, 2, 0, 2), (1, 2, 6, 8)])
            for ground, contact in ((0, 2), (1, 3)):
                self.assertEqual(least_push(pile, contact), pair_of(Fraction(weight, 3)))
                self.assertEqual(greatest_push(pile, contact), pair_of(Fraction(2 * weight, 3)))
                self.assertEqual(least_push(pile, ground), pair_of(1 + Fraction(weight, 3)))
                self.assertEqual(greatest_push(pile, ground), pair_of(1 + Fraction(2 * weight, 3)))

    def test_a_beam_on_any_two_blocks(self):
        for low in range(3):
            for high in range(low + 1, 7):
                pile = ((low, 0, 1, 1, 1), (high, 0, 1, 1, 1), (0, 1, 8, 1, 5))
                if high + 1 < 4:
                    continue
                # The least push under one end is there when both blocks push as far from it as they can.
                least = max(Fraction(0), Fraction(5 * (high - 4), high - low))
                most = Fraction(5 * (high + 1 - 4), high - low)
                self.assertEqual(least_push(pile, 2), pair_of(least), pile)
                self.assertEqual(greatest_push(pile, 2), pair_of(most), pile)

    def test_no_push_at_all(self):
        pile = ((0, 0, 4, 1, 1), (5, 0, 1, 1, 1), (0, 1, 8, 1, 1))
        self.assertEqual(least_push(pile, 3), (0, 1))
        pile = ((0, 0, 2, 1, 1), (1, 1, 2, 1, 1), (2, 0, 1, 1, 1))
        self.assertEqual(greatest_push(pile, 2), (1, 1))
        self.assertEqual(least_push(pile, 2), (0, 1))

    def test_without_blocks(self):
        for push in PUSHES:
            self.assertIs(raised(push, (), 0), InvalidContact)
            self.assertIs(raised(push, (), -1), InvalidContact)

    def test_numbers_at_and_beyond_the_last_one(self):
        for pile in (SURE, BRIDGE, ARCH, row_of_blocks(6)):
            last = len(contacts(pile)) - 1
            for push in PUSHES:
                for contact in (0, last):
                    self.assertIsNone(raised(push, pile, contact))
                for contact in (-1, -last - 1, last + 1, last + 2):
                    self.assertIs(raised(push, pile, contact), InvalidContact, contact)

    def test_more_contacts_than_blocks_and_fewer(self):
        self.assertEqual(len(contacts(BRIDGE)), 4)
        self.assertEqual(greatest_push(BRIDGE, 3), (2, 1))
        pile = ((0, 0, 1, 1, 1), (0, 5, 1, 1, 1))
        self.assertEqual([raised(least_push, pile, contact) for contact in range(2)], [Tips, InvalidContact])

    def test_tips(self):
        for push in PUSHES:
            for contact in range(2):
                self.assertIs(raised(push, LOOSE, contact), Tips)
            self.assertIs(raised(push, without(COUNTERWEIGHT, 2), 0), Tips)

    def test_pushes_of_a_rest_lie_between(self):
        for pile in PILES:
            if stands(pile):
                for contact, shares in enumerate(some_rest(pile)):
                    push = sum(Fraction(*share) for share in shares)
                    least, greatest = least_push(pile, contact), greatest_push(pile, contact)
                    self.check_fraction(least)
                    self.check_fraction(greatest)
                    self.assertTrue(Fraction(*least) <= push <= Fraction(*greatest), (pile, contact))

    def test_pushes_on_the_ground_carry_all(self):
        for pile in PILES:
            ground = [k for k, contact in enumerate(contacts(pile)) if contact[0] == -1]
            if pile and stands(pile):
                self.assertLessEqual(sum(Fraction(*least_push(pile, k)) for k in ground), sum(weights_of(pile)))
                self.assertGreaterEqual(sum(Fraction(*greatest_push(pile, k)) for k in ground), sum(weights_of(pile)))

    def test_as_the_slow_form_tells(self):
        several = 0
        for pile in PILES[:100] + PILES[-100:]:
            for contact in range(len(contacts(pile))):
                found = slow_pushes(pile, contact)
                if found is None:
                    self.assertEqual([raised(push, pile, contact) for push in PUSHES], [Tips, Tips], pile)
                else:
                    told = [push(pile, contact) for push in PUSHES]
                    self.assertEqual(told, [pair_of(number) for number in found], (pile, contact))
                    several += told[0] != told[1]
        self.assertGreater(several, 20)

    def test_mirrored_piles(self):
        for pile in dropped_piles(60, 23):
            other = mirrored(pile)
            if not is_pile(other) or not stands(pile):
                continue
            turned = [(low, up, -right, -left) for low, up, left, right in contacts(pile)]
            for contact, found in enumerate(turned):
                for push in PUSHES:
                    self.assertEqual(push(pile, contact), push(other, contacts(other).index(found)), pile)


class GreatestMoreTest(FractionTest):
    def test_example(self):
        self.assertIsNone(greatest_more(SURE, 1, 3))

    def test_on_the_ground(self):
        for place in range(5):
            self.assertIsNone(greatest_more(((0, 0, 4, 1, 2),), 0, place))

    def test_a_block_on_a_block_with_a_weight_more_at_its_end(self):
        for weight in range(1, 10):
            for left in range(-2, 3):
                pile = ((0, 0, 4, 1, 1), (left, 1, 4, 1, weight))
                for place in range(left, left + 5):
                    # The upper block tips about the end of the lower one that is near the place.
                    wanted = None
                    if place < 0:
                        wanted = pair_of(Fraction(weight * (left + 2), -place))
                    elif place > 4:
                        wanted = pair_of(Fraction(weight * (4 - left - 2), place - 4))
                    self.assertEqual(greatest_more(pile, 1, place), wanted, (pile, place))
                for place in range(5):
                    self.assertIsNone(greatest_more(pile, 0, place))

    def test_a_beam_on_two_blocks_that_stand_apart(self):
        for low in range(4):
            for high in range(4, 8):
                pile = ((low, 0, 1, 1, 2), (high, 0, 1, 1, 2), (0, 1, 8, 1, 5))
                for place in range(9):
                    wanted = None
                    if place < low:
                        wanted = pair_of(Fraction(5 * (4 - low), low - place))
                    elif place > high + 1:
                        wanted = pair_of(Fraction(5 * (high + 1 - 4), place - high - 1))
                    self.assertEqual(greatest_more(pile, 2, place), wanted, (pile, place))

    def test_a_weight_more_that_holds_another_block_down(self):
        # The counterweight's turn about the pillar's right is 27 / 2, the plank's own is 2.
        self.assertIsNone(greatest_more(COUNTERWEIGHT, 2, 0))
        self.assertIsNone(greatest_more(COUNTERWEIGHT, 1, 1))
        self.assertIsNone(greatest_more(COUNTERWEIGHT, 1, 2))
        self.assertEqual(greatest_more(COUNTERWEIGHT, 1, 3), (23, 2))
        self.assertEqual(greatest_more(COUNTERWEIGHT, 1, 8), (23, 12))

    def test_no_more_at_all(self):
        self.assertIs(stands(SURE), True)
        self.assertEqual(greatest_more(SURE, 1, 5), (0, 1))
        self.assertEqual(greatest_more(SURE, 1, 6), (0, 1))

    def test_tips_though_a_weight_more_would_help(self):
        pile = changed(COUNTERWEIGHT, 2, (0, 2, 1, 1, 1))
        self.assertIs(stands(pile), False)
        self.assertEqual(greatest_more(COUNTERWEIGHT, 2, 1), None)
        self.assertIs(raised(greatest_more, pile, 2, 0), Tips)
        self.assertIs(raised(greatest_more, pile, 1, 0), Tips)

    def test_without_blocks(self):
        for block in (-1, 0, 1):
            self.assertIs(raised(greatest_more, (), block, 0), InvalidNumber)

    def test_numbers_at_and_beyond_the_last_one(self):
        for pile in (SURE, BRIDGE, ARCH, row_of_blocks(6)):
            for block in (0, len(pile) - 1):
                self.assertIsNone(raised(greatest_more, pile, block, pile[block][0]))
            for block in (-1, -len(pile), len(pile), len(pile) + 1):
                self.assertIs(raised(greatest_more, pile, block, pile[0][0]), InvalidNumber, block)

    def test_places_at_the_ends_and_beyond_them(self):
        for pile in (SURE, BRIDGE, ARCH, row_of_blocks(6), LOOSE):
            for block, (left, _, width, _, _) in enumerate(pile):
                for place in (left, left + width):
                    self.assertIs(raised(greatest_more, pile, block, place), None if stands(pile) else Tips)
                for place in (left - 1, left + width + 1):
                    self.assertIs(raised(greatest_more, pile, block, place), InvalidPlace)

    def test_tips(self):
        for block in range(2):
            for place in places(LOOSE[block]):
                self.assertIs(raised(greatest_more, LOOSE, block, place), Tips)

    def test_as_the_slow_form_tells(self):
        draw = random.Random(24)
        bounded = 0
        for pile in filter(stands, PILES):
            for block in range(len(pile)):
                for place in draw.sample(places(pile[block]), 2):
                    told = greatest_more(pile, block, place)
                    least, greatest = slow_loads(pile, weights_of(pile), block, place)
                    self.assertEqual(least, 0)
                    self.assertEqual(told, None if greatest is None else pair_of(greatest), (pile, block, place))
                    if told is not None:
                        self.check_fraction(told)
                        bounded += told > (0, 1)
        self.assertGreater(bounded, 40)

    def test_a_weight_more_at_the_middle_is_a_weight_of_the_block(self):
        for pile in PILES:
            for block, (left, _, width, _, weight) in enumerate(pile):
                if width % 2 or not stands(pile):
                    continue
                more = greatest_more(pile, block, left + width // 2)
                weights = weights_of(pile)
                weights[block] += 10 ** 6 if more is None else Fraction(*more)
                self.assertTrue(slow_stands(pile, weights), (pile, block))
                weights[block] += Fraction(1, 100)
                self.assertIs(slow_stands(pile, weights), more is None, (pile, block))


class WrongArgumentsTest(unittest.TestCase):
    def test_wrong_piles(self):
        for value in wrong_piles():
            for push in PUSHES:
                for contact in (0, 9, None):
                    self.assertIs(raised(push, value, contact), InvalidPile, value)
            for block, place in ((0, 0), (9, 0), (0, 99), (None, None)):
                self.assertIs(raised(greatest_more, value, block, place), InvalidPile, value)

    def test_wrong_contacts(self):
        for value in wrong_numbers() + [-1, 2, (), contacts(SURE)[0], nested(30), nested(30, list)]:
            for push in PUSHES:
                self.assertIs(raised(push, SURE, value), InvalidContact, value)
                # The pile tips, too, but this is looked at later.
                self.assertIs(raised(push, LOOSE, value), InvalidContact, value)

    def test_wrong_blocks(self):
        for value in wrong_numbers() + [-1, 2, (), SURE[0], nested(30), nested(30, list)]:
            for pile in (SURE, LOOSE):
                for place in (3, 99, None):
                    self.assertIs(raised(greatest_more, pile, value, place), InvalidNumber, value)

    def test_wrong_places(self):
        for value in wrong_numbers() + [-1, 5, (), nested(30), nested(30, list)]:
            for pile in (SURE, LOOSE):
                self.assertIs(raised(greatest_more, pile, 0, value), InvalidPlace, value)

    def test_true_and_false_are_not_integers(self):
        for value in (True, False):
            self.assertIs(raised(least_push, SURE, value), InvalidContact)
            self.assertIs(raised(greatest_push, SURE, value), InvalidContact)
            self.assertIs(raised(greatest_more, SURE, value, 2), InvalidNumber)
            self.assertIs(raised(greatest_more, SURE, 0, value), InvalidPlace)

    def test_not_modified(self):
        pile, number = [list(block) for block in SURE], [0]
        for push in PUSHES:
            self.assertIs(raised(push, pile, number), InvalidPile)
            self.assertIs(raised(push, SURE, number), InvalidContact)
        before = copy.deepcopy((pile, number))
        self.assertIs(raised(greatest_more, pile, number, number), InvalidPile)
        self.assertIs(raised(greatest_more, SURE, number, number), InvalidNumber)
        self.assertIs(raised(greatest_more, SURE, 0, number), InvalidPlace)
        self.assertEqual((pile, number), before)
        self.assertEqual(before, ([list(block) for block in SURE], [0]))


class InterfaceTest(unittest.TestCase):
    def test_defined_in_their_file(self):
        for name in ("least_push", "greatest_push", "greatest_more"):
            self.assertEqual(getattr(pushes, name).__module__, "blockpiles.pushes")

    def test_arguments_by_name(self):
        self.assertEqual(least_push(pile=SURE, contact=0), (4, 1))
        self.assertEqual(greatest_push(pile=SURE, contact=0), (4, 1))
        self.assertEqual(greatest_more(pile=SEESAW, block=1, place=8), (7, 3))


if __name__ == "__main__":
    unittest.main()
