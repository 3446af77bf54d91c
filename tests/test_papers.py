"""Tests of papers and of the judge of them ([1], [13] and [14])."""

import copy
import random
import unittest
from itertools import combinations

from blockpiles import papers
from blockpiles.errors import InvalidNumber, InvalidOffers, InvalidPile
from blockpiles.papers import is_paper, paper
from blockpiles.props import least_price, motion_with, stands_with
from blockpiles.rests import some_motion, stands
from tests.samples import (
    ARCH, BRIDGE, LIMIT, LOOSE, SURE, Anything, Odd,
    changed, drawn_offers, drawn_piles, dropped_piles, nested, odd_values, raised, row_of_blocks, useful_offers,
    without, wrong_integers, wrong_numbers, wrong_piles,
)
from tests.slow import slow_is_motion, slow_is_paper, slow_touches

OFFERS = (((1, 7), 2),)
MOTION = ((0, 0), (-4, 1))
# Any one of the two props at the middle of block 1 is a cure.
TWO_OFFERS = (((1, 5), 3), ((1, 7), 2))
PAPER = [((), ("motion", MOTION)), (((1, 7),), ("dear",))]
TWO_PAPER = [((), ("motion", MOTION)), (((1, 5),), ("dear",)), (((1, 7),), ("dear",))]
PLANK = ((0, 1, 8, 1, 2),)
PLANK_OFFERS = (((0, 0), 2), ((0, 3), 1), ((0, 6), 2), ((0, 8), 2))
TIPPING = [pile for pile in dropped_piles(90, 121) + drawn_piles(90, 122) if not stands(pile)]


def drawn_cases(seed, many=5, dearest=5):
    """Piles that tip, each with offers."""
    draw = random.Random(seed)
    return [(pile, useful_offers(draw, pile, draw.randint(2, many), dearest)) for pile in TIPPING]


def all_bought(offers):
    """All bought props of the offers."""
    props = [prop for prop, _ in offers]
    return [bought for many in range(len(props) + 1) for bought in combinations(props, many)]


def price_of(offers, bought):
    """The price of bought props."""
    return sum(price for prop, price in offers if prop in bought)


def right_reasons(pile, offers, price, bought):
    """A right reason of each kind for bought props, if there is one."""
    found = [("dear",)] if price_of(offers, bought) >= price else []
    if not stands_with(pile, bought):
        found.append(("motion", motion_with(pile, bought)))
    return found


class PaperTest(unittest.TestCase):
    def check(self, pile, offers, price):
        """Look through the paper for a price."""
        told = paper(pile, offers, price)
        self.assertIs(type(told), list)
        for entry in told:
            self.assertEqual((type(entry), len(entry)), (tuple, 2))
            bought, reason = entry
            self.assertEqual((type(bought), type(reason)), (tuple, tuple))
            if reason == ("dear",):
                self.assertGreaterEqual(price_of(offers, bought), price)
                continue
            self.assertEqual((len(reason), reason[0], type(reason[1])), (2, "motion", tuple))
            for pair in reason[1]:
                self.assertEqual([type(number) for number in pair], [int, int])
                self.assertLessEqual(max(map(abs, pair)), LIMIT)
            self.assertTrue(slow_is_motion(pile, reason[1], bought))
        self.assertTrue(slow_is_paper(pile, offers, price, told), (pile, offers, price, told))
        self.assertIs(is_paper(pile, offers, price, told), True, (pile, offers, price, told))
        return told

    def test_example(self):
        self.assertIsNone(paper(LOOSE, OFFERS, 3))

    def test_more_of_the_example(self):
        self.assertEqual(paper(LOOSE, OFFERS, 0), [((), ("dear",))])
        for price in (1, 2):
            self.assertEqual([bought for bought, _ in self.check(LOOSE, OFFERS, price)], [(), ((1, 7),)])
        for price in range(3, 100):
            self.assertIsNone(paper(LOOSE, OFFERS, price))

    def test_price_0(self):
        for pile in (SURE, LOOSE, BRIDGE, ARCH, ()):
            for offers in ((), drawn_offers(random.Random(2), pile, 6)):
                self.assertEqual(paper(pile, offers, 0), [((), ("dear",))])
                self.check(pile, offers, 0)

    def test_a_pile_that_stands(self):
        for pile in (SURE, BRIDGE, ARCH, (), row_of_blocks(6)):
            for offers in ((), drawn_offers(random.Random(3), pile, 6)):
                for price in (1, 2, 99):
                    self.assertIsNone(paper(pile, offers, price))

    def test_no_offers(self):
        for price in (1, 50, 99):
            self.assertEqual(len(self.check(LOOSE, (), price)), 1)

    def test_no_cure_at_all(self):
        offers = (((0, 0), 1), ((0, 4), 1), ((1, 3), 9), ((1, 4), 1))
        for price in range(100):
            self.check(LOOSE, offers, price)

    def test_prices_0_and_99_and_one_beyond_them(self):
        for pile, offers in ((LOOSE, OFFERS), (LOOSE, ()), (SURE, ()), ((), ())):
            for price in (0, 99):
                self.assertIsNone(raised(paper, pile, offers, price))
                self.assertIsNone(raised(is_paper, pile, offers, price, []))
            for price in (-1, 100):
                self.assertIs(raised(paper, pile, offers, price), InvalidNumber)
                self.assertIs(raised(is_paper, pile, offers, price, []), InvalidNumber)

    def test_up_to_the_least_price_and_none_beyond_it(self):
        several = 0
        for pile, offers in drawn_cases(123):
            least = least_price(pile, offers)
            for price in range(0, 28 if least is None else least + 1):
                several += len(self.check(pile, offers, price)) > 3
            if least is None:
                self.check(pile, offers, 99)
                continue
            for price in (least + 1, least + 2, 99):
                self.assertIsNone(paper(pile, offers, price), (pile, offers, price))
        self.assertGreater(several, 100)

    def test_six_offers(self):
        pile = tuple((3 * k, 5, 2, 1, 1) for k in range(6))
        offers = tuple(((k, 3 * k + 1), 9) for k in range(6))
        for price in (1, 27, 54):
            self.check(pile, offers, price)
        self.assertIsNone(paper(pile, offers, 55))
        self.check(pile, offers[1:], 99)
        for offers in [useful_offers(random.Random(4), pile, 6) for pile in TIPPING[:1]]:
            self.check(TIPPING[0], offers, least_price(TIPPING[0], offers) or 99)

    def test_a_new_list_each_time(self):
        first = paper(LOOSE, OFFERS, 2)
        before = list(first)
        first.append(9)
        self.assertEqual(paper(LOOSE, OFFERS, 2), before)


class IsPaperTest(unittest.TestCase):
    def test_example(self):
        self.assertIs(is_paper(LOOSE, OFFERS, 1, [((), ("motion", MOTION))]), False)

    def test_more_of_the_example(self):
        for price in range(6):
            self.assertIs(is_paper(LOOSE, OFFERS, price, PAPER), price <= 2, price)
            self.assertIs(is_paper(LOOSE, TWO_OFFERS, price, TWO_PAPER), price <= 2, price)
            self.assertIs(is_paper(LOOSE, OFFERS, price, [((), ("dear",))]), price <= 0, price)
            # The motion is touched by a prop that is not offered, and by none that is.
            self.assertIs(is_paper(LOOSE, (((1, 4), 1),), price, [((), ("motion", MOTION))]), True)
            self.assertIs(is_paper(LOOSE, (), price, [((), ("motion", MOTION))]), True)

    def test_without_blocks_and_without_offers(self):
        self.assertIs(is_paper((), (), 0, [((), ("dear",))]), True)
        self.assertIs(is_paper((), (), 1, [((), ("dear",))]), False)
        self.assertIs(is_paper((), (), 0, [((), ("motion", ()))]), False)
        self.assertIs(is_paper((), (), 0, []), False)

    def test_the_props_without_any_prop_must_be_there(self):
        for value in ([], PAPER[1:], TWO_PAPER[1:], TWO_PAPER[1:2]):
            self.assertIs(is_paper(LOOSE, TWO_OFFERS, 0, value), False, value)
            self.assertIs(is_paper(LOOSE, TWO_OFFERS, 1, value), False, value)

    def test_all_that_touch_a_motion_must_be_there(self):
        self.assertIs(is_paper(LOOSE, TWO_OFFERS, 2, TWO_PAPER[:1]), False)
        self.assertIs(is_paper(LOOSE, TWO_OFFERS, 2, TWO_PAPER[:2]), False)
        self.assertIs(is_paper(LOOSE, TWO_OFFERS, 2, TWO_PAPER[:1] + TWO_PAPER[2:]), False)
        # With both of them it is not enough: one more each time.
        self.assertIs(is_paper(LOOSE, TWO_OFFERS, 2, TWO_PAPER[:1] + [(((1, 5), (1, 7)), ("dear",))]), False)
        # Each motion turns the plank about its prop.
        root = ((), ("motion", ((1, 0),)))
        left = (((0, 0),), ("motion", ((0, 1),)))
        ones = [left, (((0, 3),), ("motion", ((-3, 1),)))]
        ones += [(((0, place),), ("motion", ((place, -1),))) for place in (6, 8)]
        pairs = [(((0, a), (0, b)), ("dear",)) for a, b in ((0, 3), (0, 6), (0, 8), (3, 6), (3, 8), (6, 8))]
        whole = sorted([root] + ones + pairs)
        self.assertIs(is_paper(PLANK, PLANK_OFFERS, 3, whole), True)
        for at, (bought, _) in enumerate(whole):
            self.assertIs(is_paper(PLANK, PLANK_OFFERS, 3, without(whole, at)), False, bought)
        self.assertIs(is_paper(PLANK, PLANK_OFFERS, 4, whole), False)

    def test_props_that_are_bought_do_not_count_as_further_ones(self):
        # A motion that just does not touch the bought prop at 4.
        offers = (((1, 4), 1),)
        for value in ([((), ("motion", MOTION)), (((1, 4),), ("motion", MOTION))], [((), ("motion", MOTION))]):
            self.assertIs(is_paper(LOOSE, offers, 99, value), True)

    def test_reasons(self):
        root = TWO_PAPER[0]
        for reason, good in (
            (("dear",), True), (("motion", ((0, 0), (-5, 1))), False), (("dear", 1), False), (("dear", None), False),
            (("dear", MOTION), False), ("dear", False), (["dear"], False), ((b"dear",), False), (("Dear",), False),
            (("dear ",), False), (("cheap",), False), ((), False), (None, False), (True, False), (("motion",), False),
            ((("dear",),), False), ({"dear"}, False), (("",), False), ({"dear": 1}, False), (("dear", ()), False),
            (("d", "e", "a", "r"), False), (("dear", "dear"), False), ((None,), False), ((True,), False), ((0,), False),
        ):
            self.assertIs(is_paper(LOOSE, OFFERS, 2, [root, (((1, 7),), reason)]), good, reason)
        dear = PAPER[1]
        for reason, good in (
            (("motion", MOTION), True), (("motion", ((0, 0), (-9, 2))), True), (("motion", ((0, 0), (-5, 1))), False),
            (("motion", ((0, 0), (-3, 1))), False), (("motion", ((0, 0), (0, 0))), False), (("motion", ()), False),
            (("motion", list(MOTION)), False), (("motion", ((0, 0), [-4, 1])), False), (("motion", None), False),
            (("motion", MOTION, 1), False), (("motion", MOTION, None), False), (["motion", MOTION], False),
            (("Motion", MOTION), False), (("dear", MOTION), False), ((MOTION, "motion"), False), (("motion",), False),
            (("motion", MOTION[:1]), False), (("motion", MOTION + ((0, 0),)), False), ((b"motion", MOTION), False),
            (("motion", (MOTION,)), False), (("motion", ((0, 0), (-4, True))), False), (MOTION, False),
        ):
            self.assertIs(is_paper(LOOSE, OFFERS, 2, [((), reason), dear]), good, reason)

    def test_reasons_that_take_themselves_for_right(self):
        for reason in ((Anything(),), (Anything(), MOTION), Anything(), ("motion", Anything())):
            self.assertIs(is_paper(LOOSE, OFFERS, 2, [PAPER[0], (((1, 7),), reason)]), False)
            self.assertIs(is_paper(LOOSE, OFFERS, 2, [((), reason), PAPER[1]]), False)
        for bought in (Anything(), (Anything(),), ((1, Anything()),), ((Anything(), 7),)):
            self.assertIs(is_paper(LOOSE, OFFERS, 2, [PAPER[0], (bought, ("dear",))]), False)
            self.assertIs(is_paper(LOOSE, OFFERS, 2, [PAPER[0], PAPER[1], (bought, ("dear",))]), False)

    def test_a_dear_one_has_at_least_the_price(self):
        offers = (((1, 5), 3), ((1, 7), 2))
        for price in range(9):
            both = TWO_PAPER[:2] + [(((1, 5), (1, 7)), ("dear",))] + TWO_PAPER[2:]
            self.assertIs(is_paper(LOOSE, offers, price, both), price <= 2, price)
            single = [((), ("motion", MOTION)), (((1, 7),), ("dear",))]
            self.assertIs(is_paper(LOOSE, (((1, 7), 5),), price, single), price <= 5, price)

    def test_bounds_of_integers(self):
        for number, good in ((LIMIT, True), (LIMIT + 1, False)):
            self.assertIs(is_paper(PLANK, (), 1, [((), ("motion", ((number, 0),)))]), good)
            self.assertIs(is_paper(PLANK, (), 1, [((), ("motion", ((-number, number),)))]), good)
        for value in wrong_integers():
            self.assertIs(is_paper(PLANK, (), 1, [((), ("motion", ((value, 1),)))]), False, value)

    def test_bought_props(self):
        root, dear = PAPER
        wrong = odd_values() + [0, (1, 7), [(1, 7)], ([1, 7],), ((1, 7), (1, 7)), ((1, 8),), ((2, 7),), ((1, 6),), "17"]
        for bought in wrong + [(((1, 7), 2),), ((1, 7, 2),), ((1,),), ((True, 7),), ((1, 7), None), {(1, 7)}]:
            self.assertIs(is_paper(LOOSE, OFFERS, 2, [root, (bought, ("dear",))]), False, bought)
            self.assertIs(is_paper(LOOSE, OFFERS, 0, [((), ("dear",)), (bought, ("dear",))]), False, bought)
        self.assertIs(is_paper(LOOSE, OFFERS, 0, [((), ("dear",)), dear]), True)
        two = TWO_PAPER[:2] + [(((1, 7), (1, 5)), ("dear",))] + TWO_PAPER[2:]
        self.assertIs(is_paper(LOOSE, TWO_OFFERS, 2, two), False)
        self.assertIs(is_paper(LOOSE, TWO_OFFERS, 2, sorted(two)), False)
        # No further entry for a prop that is one of the pile, but not offered.
        more = TWO_PAPER[:2] + [(((1, 6),), ("dear",))] + TWO_PAPER[2:]
        self.assertIs(is_paper(LOOSE, TWO_OFFERS, 0, more), False)
        self.assertIs(is_paper(LOOSE, TWO_OFFERS[:1] + (((1, 6), 2),) + TWO_OFFERS[1:], 2, more), True)

    def test_true_and_false_are_not_integers(self):
        offers = (((0, 1), 2), ((1, 7), 2))
        root, dear = ((), ("motion", MOTION)), (((1, 7),), ("dear",))
        self.assertIs(is_paper(LOOSE, offers, 2, [root, (((0, 1),), ("dear",)), dear]), True)
        for prop in ((False, 1), (0, True), (False, True)):
            self.assertIs(is_paper(LOOSE, offers, 2, [root, ((prop,), ("dear",)), dear]), False)
        self.assertIs(is_paper(LOOSE, OFFERS, 1, [((), ("motion", ((False, 0), (-4, True)))), dear]), False)
        for price in (True, False):
            self.assertIs(raised(paper, LOOSE, OFFERS, price), InvalidNumber)
            self.assertIs(raised(is_paper, LOOSE, OFFERS, price, PAPER), InvalidNumber)

    def test_ascending_without_repetitions(self):
        for value in (PAPER[::-1], PAPER + PAPER[1:], PAPER[:1] + PAPER, PAPER + PAPER, [PAPER[0], PAPER[0], PAPER[1]]):
            self.assertIs(is_paper(LOOSE, OFFERS, 2, value), False, value)
        for value in (TWO_PAPER[::-1], [TWO_PAPER[0], TWO_PAPER[2], TWO_PAPER[1]], TWO_PAPER[1:] + TWO_PAPER[:1]):
            self.assertIs(is_paper(LOOSE, TWO_OFFERS, 2, value), False, value)
        # The entries are ascending, but the same bought props are there twice, with unlike right reasons.
        offers = (((1, 4), 2), ((1, 7), 2))
        both = (((1, 4), (1, 7)), ("dear",))
        two = [PAPER[0], (((1, 4),), ("dear",)), (((1, 4),), ("motion", MOTION)), PAPER[1], both]
        self.assertIs(is_paper(LOOSE, offers, 2, sorted(two)), False)
        for at in range(2):
            self.assertIs(is_paper(LOOSE, offers, 2, sorted(without(two, 1 + at))), True)
        self.assertIs(is_paper(LOOSE, OFFERS, 0, [((), ("dear",)), ((), ("motion", MOTION)), PAPER[1]]), False)

    def test_wrong_papers(self):
        values = odd_values() + [0, "", tuple(PAPER), {(): ("dear",)}, PAPER[0], [PAPER], iter(PAPER)]
        values += [[list(entry) for entry in PAPER], [PAPER[0], list(PAPER[1])], [list(PAPER[0]), PAPER[1]]]
        values += [[PAPER[0], PAPER[1] + (1,)], [PAPER[0], PAPER[1][:1]], [PAPER[0], ()], PAPER + [()], PAPER + [None]]
        values += [[PAPER[0] + (1,), PAPER[1]], [((),), PAPER[1]], [None] + PAPER, PAPER + [Odd()], [PAPER[1][0]]]
        values += [[entry] for entry in odd_values() + [0]] + [PAPER + [entry] for entry in odd_values() + [0]]
        values += [nested(30), nested(30, list), [nested(29)], [(nested(28), nested(28))], [((), nested(28, list))]]
        for value in values:
            for price in (0, 1, 2):
                self.assertIs(is_paper(LOOSE, OFFERS, price, value), False, value)

    def test_an_entry_taken_out(self):
        for pile, offers in drawn_cases(124):
            price = least_price(pile, offers) or sum(price for _, price in offers)
            told = paper(pile, offers, price)
            for at in range(len(told)):
                self.assertIs(is_paper(pile, offers, price, without(told, at)), False, (pile, offers, told, at))

    def test_changed_papers_as_the_document_tells(self):
        draw = random.Random(125)
        found = {True: 0, False: 0}
        for pile, offers in drawn_cases(126) * 3:
            price = least_price(pile, offers) or sum(price for _, price in offers)
            told = paper(pile, offers, draw.randint(1, price))
            motions = [reason[1] for _, reason in told if reason != ("dear",)] + [some_motion(pile)]
            at = draw.randrange(len(told))
            reasons = [("dear",), ("motion", draw.choice(motions)), ("motion", tuple((-a, -b) for a, b in motions[0]))]
            reasons += right_reasons(pile, offers, price, told[at][0])
            other = told[:at] + [(told[at][0], draw.choice(reasons))] + told[at + 1:]
            for most in (price, price + 1, 1):
                good = slow_is_paper(pile, offers, most, other)
                self.assertIs(is_paper(pile, offers, most, other), good, (pile, offers, most, other))
                found[good] += 1
        self.assertGreater(min(found.values()), 100)

    def test_further_entries_with_right_reasons(self):
        draw = random.Random(127)
        more = 0
        for pile, offers in drawn_cases(128):
            price = least_price(pile, offers) or sum(price for _, price in offers)
            told = paper(pile, offers, price)
            listed = [bought for bought, _ in told]
            others = [bought for bought in all_bought(offers) if bought not in listed]
            # No entry that is dear needs any other one.
            dear = [(bought, ("dear",)) for bought in others if price_of(offers, bought) >= price]
            some = draw.sample(dear, draw.randint(0, len(dear)))
            self.assertIs(is_paper(pile, offers, price, sorted(told + some)), True)
            # All bought props, with any right reasons.
            whole = [(bought, draw.choice(right_reasons(pile, offers, price, bought))) for bought in all_bought(offers)]
            self.assertIs(is_paper(pile, offers, price, sorted(whole)), True, (pile, offers, whole))
            more += bool(others)
            wrong = [bought for bought in others if price_of(offers, bought) < price]
            for bought in wrong[:2]:
                self.assertIs(is_paper(pile, offers, price, sorted(told + [(bought, ("dear",))])), False)
        self.assertGreater(more, 20)

    def test_a_further_motion_needs_what_touches_it_too(self):
        # Nothing touches the first motion, so that the other entries are not needed.
        pile = ((0, 5, 4, 1, 1), (10, 5, 4, 1, 1))
        offers = (((1, 10), 1), ((1, 14), 1))
        root = ((), ("motion", ((1, 0), (0, 0))))
        further = (((1, 10),), ("motion", ((0, 0), (-10, 1))))
        self.assertIs(is_paper(pile, offers, 9, [root]), True)
        self.assertIs(is_paper(pile, offers, 9, [root, further]), False)
        both = (((1, 10), (1, 14)), ("motion", ((1, 0), (0, 0))))
        self.assertIs(is_paper(pile, offers, 9, [root, further, both]), True)
        self.assertIs(is_paper(pile, offers, 9, [root, both]), True)

    def test_no_paper_where_a_cure_has_a_lesser_price(self):
        # Whatever the reasons are, one of all bought props is a cure that is not dear.
        draw = random.Random(129)
        for pile, offers in drawn_cases(130, 4):
            least = least_price(pile, offers)
            if least is None:
                continue
            motions = [motion_with(pile, bought) for bought in all_bought(offers)]
            reasons = [("motion", motion) for motion in motions if motion is not None]
            for _ in range(4):
                whole = [(bought, draw.choice(reasons + [("dear",)])) for bought in all_bought(offers)]
                best = [(bought, (right_reasons(pile, offers, least + 1, bought) + [draw.choice(reasons)])[0])
                        for bought in all_bought(offers)]
                self.assertIs(is_paper(pile, offers, least + 1, sorted(whole)), False)
                self.assertIs(is_paper(pile, offers, least + 1, sorted(best)), False)

    def test_touching_props_are_asked_for(self):
        for pile, offers in drawn_cases(131):
            motion = some_motion(pile)
            touching = [prop for prop, _ in offers if slow_touches(prop, motion)]
            told = [((), ("motion", motion))] + [((prop,), ("dear",)) for prop in touching]
            price = min([price for prop, price in offers if prop in touching], default=99)
            self.assertIs(is_paper(pile, offers, price, told), True)
            for at in range(1, len(told)):
                self.assertIs(is_paper(pile, offers, price, without(told, at)), False)


class WrongArgumentsTest(unittest.TestCase):
    def test_wrong_piles(self):
        for value in wrong_piles():
            for offers, price in (((), 0), (OFFERS, 1), (None, 0), ((), None), (None, 100)):
                self.assertIs(raised(paper, value, offers, price), InvalidPile, value)
                self.assertIs(raised(is_paper, value, offers, price, PAPER), InvalidPile, value)

    def test_wrong_offers(self):
        wrong = odd_values() + [0, list(OFFERS), (((1, 7), 0),), (((1, 7), 10),), (((1, 8), 1),), (((1, 7), True),)]
        wrong += [OFFERS * 2, OFFERS[0], (((1, 7), 1), ((1, 7), 2)), TWO_OFFERS[::-1], nested(30), nested(30, list)]
        for value in wrong:
            for price in (0, 1, -1, 100, None):
                self.assertIs(raised(paper, LOOSE, value, price), InvalidOffers, value)
                self.assertIs(raised(is_paper, LOOSE, value, price, PAPER), InvalidOffers, value)
                self.assertIs(raised(is_paper, LOOSE, value, price, None), InvalidOffers, value)

    def test_wrong_prices(self):
        for value in wrong_numbers() + [-1, 100, (), "1", nested(30), nested(30, list)]:
            for pile, offers in ((LOOSE, OFFERS), (SURE, ())):
                self.assertIs(raised(paper, pile, offers, value), InvalidNumber, value)
                self.assertIs(raised(is_paper, pile, offers, value, PAPER), InvalidNumber, value)
                self.assertIs(raised(is_paper, pile, offers, value, None), InvalidNumber, value)

    def test_not_modified(self):
        values = [
            [PAPER[0], list(PAPER[1])], [[[], ["motion", [[0, 0], [-4, 1]]]], [[[1, 7]], ["dear"]]],
            [((), ("motion", [(0, 0), (-4, 1)])), PAPER[1]], list(PAPER), PAPER[::-1], PAPER + PAPER,
        ]
        before = copy.deepcopy(values)
        self.assertEqual([is_paper(LOOSE, OFFERS, 2, value) for value in values], [False] * 3 + [True] + [False] * 2)
        offers, pile = [list(offer) for offer in OFFERS], [list(block) for block in LOOSE]
        again = copy.deepcopy((offers, pile))
        self.assertIs(raised(paper, LOOSE, offers, 1), InvalidOffers)
        self.assertIs(raised(paper, LOOSE, tuple(offers), 1), InvalidOffers)
        self.assertIs(raised(paper, pile, offers, 1), InvalidPile)
        self.assertEqual((values, (offers, pile)), (before, again))


class InterfaceTest(unittest.TestCase):
    def test_defined_in_their_file(self):
        for name in ("paper", "is_paper"):
            self.assertEqual(getattr(papers, name).__module__, "blockpiles.papers")

    def test_arguments_by_name(self):
        self.assertIsNone(paper(pile=LOOSE, offers=OFFERS, price=3))
        self.assertIs(is_paper(pile=LOOSE, offers=OFFERS, price=2, value=PAPER), True)

    def test_changed_is_used_for_offers_too(self):
        # A dearer offer makes room for a paper.
        self.assertIsNone(paper(LOOSE, OFFERS, 5))
        self.assertIs(is_paper(LOOSE, changed(OFFERS, 0, ((1, 7), 5)), 5, PAPER), True)


if __name__ == "__main__":
    unittest.main()
