"""Tests of blocks, piles, contacts and mirrored piles ([1], [3] and [4])."""

import copy
import unittest

from blockpiles import piles
from blockpiles.errors import InvalidPile, PileError
from blockpiles.piles import contacts, is_pile, mirrored
from tests.samples import (
    ARCH, BOUNDS, BRIDGE, COUNTERWEIGHT, LOOSE, SURE,
    changed, drawn_piles, nested, overlap, row_of_blocks, wrong_blocks, wrong_piles,
)
from tests.slow import slow_contacts


class IsPileTest(unittest.TestCase):
    def test_ordinary_piles(self):
        for pile in (SURE, LOOSE, BRIDGE, COUNTERWEIGHT, ARCH):
            self.assertIs(is_pile(pile), True)

    def test_without_blocks(self):
        self.assertIs(is_pile(()), True)

    def test_six_blocks_but_not_seven(self):
        self.assertIs(is_pile(row_of_blocks(6)), True)
        self.assertIs(is_pile(row_of_blocks(7)), False)

    def test_each_bound_and_one_beyond_it(self):
        block = (0, 0, 4, 1, 2)
        for at, (least, most) in enumerate(BOUNDS):
            for number in (least, least + 1, most - 1, most):
                self.assertIs(is_pile((changed(block, at, number),)), True, (at, number))
            for number in (least - 1, most + 1):
                self.assertIs(is_pile((changed(block, at, number),)), False, (at, number))

    def test_all_bounds_at_once(self):
        self.assertIs(is_pile((tuple(least for least, most in BOUNDS), tuple(most for least, most in BOUNDS))), True)

    def test_bounds_hold_for_each_block(self):
        for at in range(6):
            wrong = changed(row_of_blocks(6)[at], 4, 10)
            self.assertIs(is_pile(changed(row_of_blocks(6), at, wrong)), False)

    def test_sides_and_corners_may_meet(self):
        block = (0, 4, 2, 2, 1)
        for left, bottom in ((2, 4), (-2, 4), (0, 6), (0, 2), (2, 6), (2, 2), (-2, 6), (-2, 2)):
            self.assertIs(is_pile((block, (left, bottom, 2, 2, 1))), True, (left, bottom))

    def test_no_point_inside_two(self):
        block = (0, 4, 2, 2, 1)
        for left in (-1, 0, 1):
            for bottom in (3, 4, 5):
                self.assertIs(is_pile((block, (left, bottom, 2, 2, 1))), False, (left, bottom))
                self.assertIs(is_pile(((left, bottom, 2, 2, 1), (9, 0, 1, 1, 1), block)), False)

    def test_a_block_within_another(self):
        self.assertIs(is_pile(((0, 0, 8, 4, 1), (3, 1, 1, 1, 1))), False)
        self.assertIs(is_pile(((3, 1, 1, 1, 1), (0, 0, 8, 4, 1))), False)
        self.assertIs(is_pile(((0, 1, 8, 1, 1), (3, 0, 1, 3, 1))), False)

    def test_all_pairs_by_unit_squares(self):
        block = (0, 4, 3, 2, 1)
        for left in range(-5, 6):
            for bottom in range(10):
                other = (left, bottom, 2, 3, 1)
                self.assertIs(is_pile((block, other)), not overlap(block, other), other)

    def test_blocks_in_the_air(self):
        self.assertIs(is_pile(((0, 20, 1, 1, 1), (0, 7, 1, 1, 1))), True)

    def test_wrong_values(self):
        for value in wrong_piles():
            self.assertIs(is_pile(value), False, value)

    def test_true_and_false_are_not_integers(self):
        for block in ((True, 0, 4, 1, 2), (0, False, 4, 1, 2), (0, 0, True, 1, 2), (0, 0, 4, True, 2), (0, 0, 4, 1, True)):
            self.assertIs(is_pile((block,)), False)

    def test_lists_are_not_tuples(self):
        self.assertIs(is_pile(list(SURE)), False)
        self.assertIs(is_pile((SURE[0], list(SURE[1]))), False)

    def test_deep_values(self):
        for make in (tuple, list):
            for depth in (2, 3, 29, 30):
                self.assertIs(is_pile(nested(depth, make)), False)


class ContactsTest(unittest.TestCase):
    def test_examples(self):
        self.assertEqual(contacts(SURE), [(-1, 0, 0, 4), (0, 1, 2, 4)])
        self.assertEqual(contacts(LOOSE), [(-1, 0, 0, 4), (0, 1, 3, 4)])

    def test_without_blocks(self):
        self.assertEqual(contacts(()), [])

    def test_ground(self):
        self.assertEqual(contacts(((-7, 0, 3, 2, 1),)), [(-1, 0, -7, -4)])
        self.assertEqual(contacts(((-7, 1, 3, 2, 1),)), [])

    def test_in_the_air(self):
        self.assertEqual(contacts(((0, 0, 4, 1, 2), (0, 2, 4, 1, 2))), [(-1, 0, 0, 4)])
        self.assertEqual(contacts(((0, 5, 4, 1, 2), (0, 6, 4, 1, 2))), [(0, 1, 0, 4)])

    def test_common_places(self):
        lower = (0, 0, 4, 1, 2)
        for left in range(-5, 8):
            found = contacts((lower, (left, 1, 3, 1, 2)))
            wanted = [(-1, 0, 0, 4)]
            if -3 < left < 4:
                wanted.append((0, 1, max(0, left), min(4, left + 3)))
            self.assertEqual(found, wanted, left)

    def test_one_place_in_common_is_no_contact(self):
        self.assertEqual(contacts((SURE[0], (4, 1, 4, 1, 2))), [(-1, 0, 0, 4)])
        self.assertEqual(contacts((SURE[0], (-4, 1, 4, 1, 2))), [(-1, 0, 0, 4)])

    def test_sides_that_meet_are_no_contact(self):
        self.assertEqual(contacts(((0, 0, 4, 2, 1), (4, 0, 4, 2, 1))), [(-1, 0, 0, 4), (-1, 1, 4, 8)])

    def test_upper_within_lower_and_lower_within_upper(self):
        self.assertEqual(contacts(((0, 0, 8, 1, 1), (3, 1, 2, 1, 1)))[1], (0, 1, 3, 5))
        self.assertEqual(contacts(((3, 0, 2, 1, 1), (0, 1, 8, 1, 1)))[1], (0, 1, 3, 5))

    def test_ascending_whatever_the_numbers(self):
        pile = ((0, 1, 4, 1, 1), (0, 2, 4, 1, 1), (0, 0, 2, 1, 1), (3, 0, 2, 1, 1), (-2, 0, 1, 2, 1))
        wanted = [(-1, 2, 0, 2), (-1, 3, 3, 5), (-1, 4, -2, -1), (0, 1, 0, 4), (2, 0, 0, 2), (3, 0, 3, 4)]
        self.assertEqual(contacts(pile), wanted)

    def test_two_on_one_and_one_on_two(self):
        wanted = [(-1, 0, 0, 4), (-1, 1, 8, 12), (0, 2, 1, 4), (1, 3, 8, 11), (2, 4, 5, 6), (3, 4, 6, 7), (4, 5, 5, 7)]
        self.assertEqual(contacts(ARCH), wanted)

    def test_drawn_piles(self):
        for pile in drawn_piles(400, 1):
            self.assertEqual(contacts(pile), slow_contacts(pile), pile)

    def test_each_list_is_new(self):
        first = contacts(SURE)
        second = contacts(SURE)
        self.assertIsNot(first, second)
        first.clear()
        self.assertEqual(contacts(SURE), second)
        self.assertIs(type(second), list)
        self.assertEqual([type(contact) for contact in second], [tuple, tuple])


class MirroredTest(unittest.TestCase):
    def test_example(self):
        self.assertEqual(mirrored(SURE), ((-4, 0, 4, 1, 2), (-6, 1, 4, 1, 2)))

    def test_without_blocks(self):
        self.assertEqual(mirrored(()), ())

    def test_only_the_left_changes(self):
        self.assertEqual(mirrored(((3, 7, 1, 4, 9),)), ((-4, 7, 1, 4, 9),))
        self.assertEqual(mirrored(((-3, 7, 6, 4, 9),)), ((-3, 7, 6, 4, 9),))

    def test_beyond_the_bounds_of_a_pile(self):
        self.assertEqual(mirrored(((20, 0, 8, 1, 1),)), ((-28, 0, 8, 1, 1),))
        self.assertIs(is_pile(mirrored(((20, 0, 8, 1, 1),))), False)

    def test_twice_gives_the_same(self):
        for pile in drawn_piles(100, 2):
            if is_pile(mirrored(pile)):
                self.assertEqual(mirrored(mirrored(pile)), pile)
                turned = [(low, up, -right, -left) for low, up, left, right in contacts(pile)]
                self.assertEqual(contacts(mirrored(pile)), sorted(turned))

    def test_a_tuple_of_tuples(self):
        self.assertIs(type(mirrored(SURE)), tuple)
        self.assertEqual([type(block) for block in mirrored(SURE)], [tuple, tuple])


class WrongPilesTest(unittest.TestCase):
    def test_raise_invalid_pile(self):
        for value in wrong_piles():
            for function in (contacts, mirrored):
                with self.assertRaises(PileError, msg=value) as caught:
                    function(value)
                self.assertIs(type(caught.exception), InvalidPile)

    def test_not_modified(self):
        for value in ([list(block) for block in SURE], [SURE[0], [0, 0]], {0: [1]}):
            before = copy.deepcopy(value)
            is_pile(value)
            for function in (contacts, mirrored):
                with self.assertRaises(InvalidPile):
                    function(value)
            self.assertEqual(value, before)

    def test_wrong_blocks_are_wrong_alone(self):
        for block in wrong_blocks():
            self.assertIs(is_pile((block,)), False, block)


class InterfaceTest(unittest.TestCase):
    def test_defined_in_their_file(self):
        for name in ("is_pile", "contacts", "mirrored"):
            self.assertEqual(getattr(piles, name).__module__, "blockpiles.piles")

    def test_arguments_by_name(self):
        self.assertIs(is_pile(value=SURE), True)
        self.assertEqual(contacts(pile=()), [])
        self.assertEqual(mirrored(pile=()), ())


if __name__ == "__main__":
    unittest.main()
