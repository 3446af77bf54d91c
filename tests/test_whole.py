"""Tests over the whole program ([1]), and of piles that are mirrored, shifted, mixed, or side by side ([3] to [13])."""

import copy
import random
import unittest
from importlib import import_module
from itertools import product

from blockpiles.building import builds, count_orders, fewest_hands, fewest_held, first_order, spare_blocks, stands_held
from blockpiles.errors import (
    InvalidBounds, InvalidContact, InvalidHeld, InvalidNumber, InvalidOffers, InvalidPile, InvalidPlace, InvalidProps,
    InvalidSide, InvalidTower, ParseError, Stands, Tips,
)
from blockpiles.piles import contacts, is_pile, mirrored
from blockpiles.pushes import greatest_more, greatest_push, least_push
from blockpiles.rests import is_motion, is_rest, some_motion, some_rest, stands
from blockpiles.weights import stands_always, tipping_weights, weight_span
from tests.samples import (
    LOOSE, SURE,
    drawn_piles, dropped_piles, nested, odd_values, raised, row_of_blocks, shifted, side_by_side, wrong_piles,
)

OFFERS = (((1, 3), 2),)
PROPS = ((1, 3),)
TOWER = ((4, 1), (4, 1))
ORDER = (0, 1)
BOUNDS = ((0, 5), (3, 3))
LEFTS = ((-3, 1), (-1, 1))

PILE = (InvalidPile, wrong_piles()[::40] + [LOOSE * 2, SURE + LOOSE[1:], SURE[:1] * 2])
NUMBER = (InvalidNumber, [-1, 2, None, True, False, "0", (0,), [0], nested(30)])
HANDS = (InvalidNumber, [-1, 7, None, True, "1", (), nested(30, list)])
PRICE = (InvalidNumber, [-1, 100, None, False, "1", (1,)])
MOST = (InvalidNumber, [-1, 5, None, False, "1", (1,)])
CONTACT = (InvalidContact, [-1, 2, None, True, (0, 1, 2, 4), nested(30)])
PLACE = (InvalidPlace, [-1, 7, None, True, "3", nested(30)])
WRONG_ORDER = (InvalidNumber, [(0,), (0, 0), (0, 2), [0, 1], None, (False, True), (0, 1, 0)])
WRONG_BOUNDS = (InvalidBounds, [(), ((0, 5), (3, 10)), ((5, 0), (3, 3)), list(BOUNDS), None, ((0, True), (3, 3))])
HELD = (InvalidHeld, [(1, 0), (0, 0), (2,), [0], None, (True,), nested(30)])
SIDE = (InvalidSide, [0, 2, -2, None, True, "1", (1,)])
WRONG_TOWER = (InvalidTower, [(), TOWER * 3, list(TOWER), ((4, 10),), ((9, 1),), ((4, True),), None, nested(30)])
WRONG_PROPS = (InvalidProps, [((1, 7),), ((2, 3),), [(1, 3)], ((1, 3), (1, 3)), ((1, 4), (1, 3)), None, ((True, 3),)])
BOUGHT = (InvalidProps, WRONG_PROPS[1] + [((1, 4),), ((0, 0),), ((1, 3), (1, 4))])
WRONG_OFFERS = (InvalidOffers, [(((1, 3), 10),), (((1, 7), 2),), list(OFFERS), OFFERS * 2, None, (((1, 3), True),)])
TEXT = (ParseError, ["", "0 0 4 1", "00 0 4 1 2", " nothing", None, SURE, b"nothing", nested(30)])
ANY = (None, odd_values()[::5] + [nested(30), nested(30, list), 10 ** 30])

# Each function of the interface that may raise: its file, good arguments, and what is raised for wrong ones.
CALLS = (
    ("piles", "contacts", (SURE,), (PILE,)),
    ("piles", "mirrored", (SURE,), (PILE,)),
    ("rests", "stands", (SURE,), (PILE,)),
    ("rests", "some_rest", (SURE,), (PILE,)),
    ("rests", "is_rest", (SURE, ()), (PILE, ANY)),
    ("rests", "some_motion", (LOOSE,), (PILE,)),
    ("rests", "is_motion", (SURE, ()), (PILE, ANY)),
    ("pushes", "least_push", (SURE, 0), (PILE, CONTACT)),
    ("pushes", "greatest_push", (SURE, 0), (PILE, CONTACT)),
    ("pushes", "greatest_more", (SURE, 1, 3), (PILE, NUMBER, PLACE)),
    ("weights", "weight_span", (SURE, 1), (PILE, NUMBER)),
    ("weights", "stands_always", (SURE, BOUNDS), (PILE, WRONG_BOUNDS)),
    ("weights", "tipping_weights", (SURE, BOUNDS), (PILE, WRONG_BOUNDS)),
    ("building", "stands_held", (SURE, (1,)), (PILE, HELD)),
    ("building", "fewest_held", (SURE,), (PILE,)),
    ("building", "builds", (SURE, ORDER, 1), (PILE, WRONG_ORDER, HANDS)),
    ("building", "first_order", (SURE, 1), (PILE, HANDS)),
    ("building", "count_orders", (SURE, 1), (PILE, HANDS)),
    ("building", "fewest_hands", (SURE,), (PILE,)),
    ("building", "spare_blocks", (SURE,), (PILE,)),
    ("sliding", "farthest", (SURE, 1, -1), (PILE, NUMBER, SIDE)),
    ("towers", "is_tower", (TOWER, LEFTS), (WRONG_TOWER, ANY)),
    ("towers", "reach", (TOWER,), (WRONG_TOWER,)),
    ("towers", "reaching_tower", (TOWER,), (WRONG_TOWER,)),
    ("towers", "best_sequence", (TOWER,), (WRONG_TOWER,)),
    ("props", "are_props", (SURE, PROPS), (PILE, ANY)),
    ("props", "stands_with", (SURE, PROPS), (PILE, WRONG_PROPS)),
    ("props", "is_rest_with", (SURE, PROPS, ()), (PILE, WRONG_PROPS, ANY)),
    ("props", "is_motion_with", (SURE, PROPS, ()), (PILE, WRONG_PROPS, ANY)),
    ("props", "are_offers", (SURE, OFFERS), (PILE, ANY)),
    ("props", "price_of", (SURE, OFFERS, PROPS), (PILE, WRONG_OFFERS, BOUGHT)),
    ("props", "least_price", (SURE, OFFERS), (PILE, WRONG_OFFERS)),
    ("props", "all_cheapest", (SURE, OFFERS), (PILE, WRONG_OFFERS)),
    ("props", "sure_props", (SURE, OFFERS), (PILE, WRONG_OFFERS)),
    ("papers", "paper", (SURE, OFFERS, 1), (PILE, WRONG_OFFERS, PRICE)),
    ("papers", "is_paper", (SURE, OFFERS, 1, []), (PILE, WRONG_OFFERS, PRICE, ANY)),
    ("texts", "format_pile", (SURE,), (PILE,)),
    ("texts", "parse_pile", ("nothing",), (TEXT,)),
    ("naive", "naive_tips", (SURE, 1), (PILE, MOST)),
    ("naive", "naive_least_price", (SURE, OFFERS), (PILE, WRONG_OFFERS)),
)
TESTS_OF_VALUES = (("piles", "is_pile"), ("towers", "are_blocks"))
PILES = dropped_piles(60, 171) + drawn_piles(60, 172)


def function_of(file, name):
    """The function of this file."""
    return getattr(import_module(f"blockpiles.{file}"), name)


class ArgumentsTest(unittest.TestCase):
    def test_good_arguments(self):
        for file, name, good, _ in CALLS:
            self.assertIsNone(raised(function_of(file, name), *good), name)

    def test_each_wrong_argument(self):
        for file, name, good, kinds in CALLS:
            for at, (error, values) in enumerate(kinds):
                for value in values:
                    told = raised(function_of(file, name), *good[:at], value, *good[at + 1:])
                    self.assertIs(told, error, (name, at, value))

    def test_several_wrong_arguments(self):
        # The one that the interface lists first is raised: they are listed in the order of the arguments.
        draw = random.Random(173)
        for file, name, good, kinds in CALLS:
            for wrong in product((False, True), repeat=len(kinds)):
                errors = [error for (error, _), is_wrong in zip(kinds, wrong) if is_wrong and error is not None]
                for _ in range(4):
                    values = [draw.choice(kinds[at][1]) if wrong[at] else good[at] for at in range(len(good))]
                    told = raised(function_of(file, name), *values)
                    self.assertIs(told, errors[0] if errors else None, (name, values))

    def test_wrong_arguments_of_a_pile_that_tips_or_stands(self):
        for error, (file, name), arguments in (
            (Tips, ("rests", "some_rest"), ()), (Tips, ("pushes", "least_push"), (0,)),
            (Tips, ("pushes", "greatest_push"), (0,)), (Tips, ("pushes", "greatest_more"), (1, 3)),
            (Tips, ("sliding", "farthest"), (1, 1)),
        ):
            self.assertIs(raised(function_of(file, name), LOOSE, *arguments), error, name)
            self.assertIsNone(raised(function_of(file, name), SURE, *arguments), name)
            for at in range(len(arguments)):
                wrong = raised(function_of(file, name), LOOSE, *arguments[:at], None, *arguments[at + 1:])
                self.assertNotIn(wrong, (error, None), name)
        self.assertIs(raised(some_motion, SURE), Stands)

    def test_values_of_any_kind(self):
        for file, name in TESTS_OF_VALUES:
            for value in odd_values() + [nested(30), nested(30, list), 0, 10 ** 30, [], ((), [])]:
                self.assertIs(function_of(file, name)(value), False, (name, value))

    def test_answers_that_are_true_or_false(self):
        for file, name, good, kinds in CALLS:
            if kinds[-1] is ANY:
                for value in ANY[1] + [good[-1]]:
                    told = function_of(file, name)(*good[:-1], value)
                    self.assertTrue(told is True or told is False, (name, value))

    def test_arguments_are_never_modified(self):
        for file, name, good, kinds in CALLS:
            wrong = [good[:at] + (kind[1][k],) + good[at + 1:] for at, kind in enumerate(kinds) for k in (0, -1)]
            for values in [good] + wrong:
                before = copy.deepcopy(values)
                raised(function_of(file, name), *values)
                self.assertEqual(repr(values), repr(before), name)

    def test_returned_lists_are_new(self):
        calls = [(file, name, good) for file, name, good, _ in CALLS]
        calls += [("papers", "paper", (LOOSE, (), 9)), ("props", "sure_props", (LOOSE, (((1, 7), 1),)))]
        lists = 0
        for file, name, good in calls:
            first = function_of(file, name)(*good)
            if isinstance(first, list):
                lists += 1
                again = function_of(file, name)(*good)
                self.assertIsNot(first, again)
                self.assertEqual(first, again)
                first.append(None)
                self.assertEqual(function_of(file, name)(*good), again, name)
        self.assertGreater(lists, 5)

    def test_same_answer_each_time(self):
        for file, name, good, _ in CALLS:
            self.assertEqual(function_of(file, name)(*good), function_of(file, name)(*good), name)

    def test_defined_in_their_file(self):
        for file, name in [call[:2] for call in CALLS] + list(TESTS_OF_VALUES):
            self.assertEqual(function_of(file, name).__module__, f"blockpiles.{file}", name)


class MirroredTest(unittest.TestCase):
    def each_pair(self):
        """Piles with their mirrored ones, where these are piles."""
        pairs = [(pile, mirrored(pile)) for pile in PILES + [SURE, LOOSE, row_of_blocks(5)]]
        return [(pile, other) for pile, other in pairs if is_pile(other)]

    def test_contacts_rests_and_motions(self):
        for pile, other in self.each_pair():
            told = sorted((low, up, -right, -left) for low, up, left, right in contacts(pile))
            self.assertEqual(contacts(other), told)
            if stands(pile):
                rest = dict(zip([(low, up) for low, up, _, _ in contacts(pile)], some_rest(pile)))
                turned = tuple(rest[low, up][::-1] for low, up, _, _ in contacts(other))
                self.assertIs(is_rest(other, turned), True, pile)
            else:
                self.assertIs(is_motion(other, tuple((a, -b) for a, b in some_motion(pile))), True, pile)

    def test_pushes_and_weights(self):
        for pile, other in self.each_pair()[::3]:
            for block in range(len(pile)):
                self.assertEqual(weight_span(other, block), weight_span(pile, block))
            bounds = tuple((0, block[4]) for block in pile)
            self.assertEqual(tipping_weights(other, bounds), tipping_weights(pile, bounds))
            self.assertIs(stands_always(other, bounds), stands_always(pile, bounds))
            if stands(pile):
                there = [(low, up) for low, up, _, _ in contacts(other)]
                for number, (low, up, _, _) in enumerate(contacts(pile)):
                    at = there.index((low, up))
                    self.assertEqual(least_push(other, at), least_push(pile, number))
                    self.assertEqual(greatest_push(other, at), greatest_push(pile, number))
                for block in range(len(pile)):
                    place = pile[block][0]
                    self.assertEqual(greatest_more(other, block, -place), greatest_more(pile, block, place))

    def test_building(self):
        for pile, other in self.each_pair():
            self.assertEqual(fewest_held(other), fewest_held(pile))
            self.assertEqual(spare_blocks(other), spare_blocks(pile))
            for hands in range(3):
                self.assertEqual(first_order(other, hands), first_order(pile, hands))
                self.assertEqual(count_orders(other, hands), count_orders(pile, hands))


class ShiftedTest(unittest.TestCase):
    def test_contacts_rests_and_motions(self):
        for pile in PILES:
            for steps in (-3, 5):
                other = shifted(pile, steps)
                if not is_pile(other):
                    continue
                self.assertEqual(contacts(other), [(low, up, left + steps, right + steps)
                                                   for low, up, left, right in contacts(pile)])
                if stands(pile):
                    self.assertIs(is_rest(other, some_rest(pile)), True, pile)
                else:
                    self.assertIs(is_motion(other, tuple((a - b * steps, b) for a, b in some_motion(pile))), True, pile)
                self.assertEqual(fewest_held(other), fewest_held(pile))


class MixedTest(unittest.TestCase):
    def test_numbers_of_blocks_do_not_matter(self):
        draw = random.Random(174)
        for pile in PILES:
            numbers = draw.sample(range(len(pile)), len(pile))
            other = tuple(pile[k] for k in numbers)
            self.assertEqual(sorted((numbers[low] if low >= 0 else low, numbers[up], left, right)
                                    for low, up, left, right in contacts(other)), contacts(pile))
            self.assertIs(stands(other), stands(pile))
            self.assertEqual(fewest_held(other), fewest_held(pile))
            self.assertEqual(sorted(numbers[k] for k in spare_blocks(other)), spare_blocks(pile))
            held = [k for k in range(len(pile)) if draw.random() < 0.4]
            self.assertIs(stands_held(other, tuple(held)), stands_held(pile, tuple(sorted(numbers[k] for k in held))))
            order = tuple(draw.sample(range(len(pile)), len(pile)))
            self.assertIs(builds(other, order, 1), builds(pile, tuple(numbers[k] for k in order), 1))
            self.assertEqual(count_orders(other, 1), count_orders(pile, 1))
            self.assertEqual(fewest_hands(other), fewest_hands(pile))


class SideBySideTest(unittest.TestCase):
    def test_one_pile_of_both(self):
        small = [pile[:3] for pile in PILES]
        found = 0
        for first, second in zip(small, small[1:]):
            both = side_by_side(first, second)
            if both is None:
                continue
            blocks = both[0]
            self.assertIs(is_pile(blocks), True)
            self.assertIs(stands(blocks), stands(first) and stands(second))
            self.assertEqual(fewest_held(blocks), fewest_held(first) + fewest_held(second))
            spare = spare_blocks(first) if stands(second) else []
            spare += [k + len(first) for k in spare_blocks(second)] if stands(first) else []
            self.assertEqual(spare_blocks(blocks), spare)
            found += 1
        self.assertGreater(found, 40)


if __name__ == "__main__":
    unittest.main()
