"""Tests of sites ([1] and [16])."""

import copy
import random
import unittest

from blockpiles import sites
from blockpiles.errors import Inside, InvalidBlock, InvalidNumber, NothingToUndo, TooMany
from blockpiles.piles import is_pile
from blockpiles.rests import stands
from blockpiles.sites import Site
from blockpiles.texts import format_pile, parse_pile
from tests.samples import (
    ARCH, BRIDGE, LOOSE, SEESAW, SURE, Anything, Odd,
    drawn_block, drawn_piles, nested, odd_values, overlap, raised, row_of_blocks, without, wrong_blocks, wrong_numbers,
)

FIRST, SECOND = SURE


def site_of(pile):
    """A site to which the blocks of a pile are put."""
    site = Site()
    for block in pile:
        site.put(block)
    return site


class SiteTest(unittest.TestCase):
    def check(self, site, pile):
        """Whether the site has this pile, in each form."""
        self.assertEqual(site.pile(), pile)
        self.assertIs(type(site.pile()), tuple)
        self.assertEqual(len(site), len(pile))
        self.assertEqual(str(site), format_pile(pile))

    def test_example(self):
        s = Site()
        self.assertIs(s.put((0, 0, 4, 1, 2)), True)
        self.assertEqual(str(s), "0 0 4 1 2")
        self.assertIs(s.take(0), True)
        self.assertEqual(s.pile(), ())
        self.assertEqual(s.undo(), ((0, 0, 4, 1, 2),))

    def test_at_first_without_blocks(self):
        self.check(Site(), ())
        self.assertEqual(str(Site()), "nothing")
        self.assertIs(raised(Site().undo), NothingToUndo)
        self.assertIs(raised(Site().take, 0), InvalidNumber)

    def test_put_behind_the_others(self):
        site = Site()
        for many, block in enumerate(row_of_blocks(6)):
            self.assertIs(site.put(block), True)
            self.check(site, row_of_blocks(many + 1))

    def test_whether_the_pile_stands(self):
        site = Site()
        self.assertEqual([site.put(block) for block in LOOSE], [True, False])
        self.assertEqual([site.take(1), site.take(0)], [True, True])
        self.assertEqual([site.put(block) for block in SURE[::-1]], [False, True])
        self.assertIs(site.take(1), False)
        self.assertIs(site.take(0), True)
        site = Site()
        self.assertEqual([site.put(block) for block in BRIDGE], [True, True, True])
        self.assertIs(site.take(1), False)

    def test_taken_away_and_numbered_anew(self):
        for at in range(6):
            site = site_of(row_of_blocks(6))
            self.assertIs(site.take(at), True)
            self.check(site, without(row_of_blocks(6), at))
            self.assertIs(raised(site.take, 5), InvalidNumber)
            site.take(4)
            self.check(site, without(without(row_of_blocks(6), at), 4))

    def test_numbers_at_and_beyond_the_last_one(self):
        for many in range(7):
            for number in (-7, -2, -1, many, many + 1, 6, 7):
                site = site_of(row_of_blocks(many))
                if not 0 <= number < many:
                    self.assertIs(raised(site.take, number), InvalidNumber)
                    self.check(site, row_of_blocks(many))
            if many:
                self.assertIs(site_of(row_of_blocks(many)).take(many - 1), True)
                self.assertIs(site_of(row_of_blocks(many)).take(0), True)

    def test_undone_back_to_the_beginning(self):
        site = site_of(SURE)
        site.take(0)
        site.put((-9, 0, 1, 1, 1))
        self.check(site, (SECOND, (-9, 0, 1, 1, 1)))
        for pile in ((SECOND,), SURE, SURE[:1], ()):
            self.assertEqual(site.undo(), pile)
            self.check(site, pile)
        for _ in range(2):
            self.assertIs(raised(site.undo), NothingToUndo)
            self.check(site, ())

    def test_not_done_again(self):
        site = site_of(SURE)
        self.assertEqual(site.undo(), (FIRST,))
        self.assertEqual(site.undo(), ())
        self.assertIs(raised(site.undo), NothingToUndo)
        # A step that was undone is no step to undo later.
        site = Site()
        site.put(FIRST)
        site.undo()
        site.put(SECOND)
        self.assertEqual(site.undo(), ())
        self.assertIs(raised(site.undo), NothingToUndo)

    def test_a_full_site(self):
        site = site_of(row_of_blocks(6))
        self.assertIs(raised(site.put, (10, 0, 1, 1, 1)), TooMany)
        self.check(site, row_of_blocks(6))
        site.take(5)
        self.assertIs(site.put((10, 0, 1, 1, 1)), True)
        self.assertIs(raised(site.put, (12, 0, 1, 1, 1)), TooMany)
        self.assertEqual([len(site.undo()) for _ in range(8)], [5, 6, 5, 4, 3, 2, 1, 0])

    def test_inside(self):
        site = site_of(SURE)
        for block in SURE + ((3, 0, 4, 1, 2), (-1, 0, 2, 1, 1), (1, 0, 1, 1, 1), (-4, 0, 8, 4, 1), (5, 0, 1, 2, 1)):
            self.assertIs(raised(site.put, block), Inside, block)
            self.check(site, SURE)
        for block in ((4, 0, 4, 1, 2), (-1, 0, 1, 1, 1), (0, 1, 2, 1, 1), (2, 2, 4, 1, 1)):
            self.assertIsNone(raised(site.put, block), block)
            site.undo()

    def test_as_points_inside_tell(self):
        draw = random.Random(151)
        found = [0, 0]
        for pile in drawn_piles(200, 152):
            site = site_of(pile[:5])
            block = drawn_block(draw, list(pile[:5]))
            if is_pile((block,)):
                meets = any(overlap(block, other) for other in pile[:5])
                self.assertIs(raised(site.put, block), Inside if meets else None)
                self.check(site, pile[:5] if meets else pile[:5] + (block,))
                found[meets] += 1
        self.assertGreater(min(found), 20)

    def test_text_is_read_back(self):
        for pile in (SURE, LOOSE, BRIDGE, ARCH, row_of_blocks(6), ()):
            self.assertEqual(parse_pile(str(site_of(pile))), pile)

    def test_piles_stay_as_they_were_given(self):
        site = site_of(SURE)
        first = site.pile()
        site.take(0)
        self.assertEqual(first, SURE)
        site.undo()
        self.assertEqual((first, site.pile()), (SURE, SURE))


class EqualTest(unittest.TestCase):
    def test_equal_piles(self):
        piles = [(), SURE[:1], SURE[1:], SURE, SURE[::-1], LOOSE, BRIDGE, row_of_blocks(6)]
        for pile in piles:
            for other in piles:
                self.assertIs(site_of(pile) == site_of(other), pile == other)
                self.assertIs(site_of(pile) != site_of(other), pile != other)

    def test_whatever_the_history_is(self):
        site = site_of(SURE)
        site.take(1)
        other = site_of(SURE[:1])
        self.assertIs(site == other, True)
        site.undo()
        self.assertIs(site == other, False)
        self.assertIs(site == site, True)

    def test_not_equal_to_any_other_object(self):
        for pile in ((), SURE):
            site = site_of(pile)
            for value in odd_values() + [0, len(pile), pile, list(pile), str(site), site.pile(), Site, Odd()]:
                self.assertIs(site == value, False, value)
                self.assertIs(site != value, True, value)
                self.assertIs(value == site, False, value)
            self.assertIs(site == Anything(), False)


class DuplicateTest(unittest.TestCase):
    def test_same_pile_and_no_step(self):
        for pile in ((), SURE[:1], SURE, LOOSE, row_of_blocks(6)):
            site = site_of(pile)
            other = site.duplicate()
            self.assertIs(type(other), Site)
            self.assertIsNot(other, site)
            self.assertIs(other == site, True)
            self.assertEqual((other.pile(), len(other), str(other)), (pile, len(pile), format_pile(pile)))
            self.assertIs(raised(other.undo), NothingToUndo)
            self.assertEqual(other.pile(), pile)

    def test_its_own_steps_can_be_undone(self):
        site = site_of(SURE)
        other = site.duplicate()
        self.assertIs(other.take(1), True)
        self.assertIs(other.put((9, 0, 1, 1, 1)), True)
        self.assertEqual(site.pile(), SURE)
        self.assertEqual(other.undo(), (FIRST,))
        self.assertEqual(other.undo(), SURE)
        self.assertIs(raised(other.undo), NothingToUndo)
        self.assertEqual(site.undo(), (FIRST,))
        self.assertEqual(other.pile(), SURE)

    def test_steps_of_the_first_one_stay_its_own(self):
        site = site_of(SURE)
        other = site.duplicate()
        site.take(0)
        self.assertEqual(other.pile(), SURE)
        self.assertIs(raised(other.undo), NothingToUndo)
        self.assertEqual([site.undo(), site.undo(), site.undo()], [SURE, SURE[:1], ()])
        self.assertEqual(other.pile(), SURE)

    def test_a_duplicate_of_a_duplicate(self):
        site = site_of(SURE)
        other = site.duplicate()
        other.take(0)
        third = other.duplicate()
        self.assertEqual(third.pile(), (SECOND,))
        self.assertIs(raised(third.undo), NothingToUndo)
        self.assertEqual(other.undo(), SURE)
        self.assertEqual(third.pile(), (SECOND,))

    def test_undone_steps_are_no_matter(self):
        site = site_of(SURE)
        site.undo()
        self.assertEqual(site.duplicate().pile(), (FIRST,))
        self.assertIs(raised(site.duplicate().undo), NothingToUndo)


class DrawnStepsTest(unittest.TestCase):
    """Many sequences of steps, on sites and duplicates, against lists of piles."""

    def step(self, draw, site, piles):
        """Make a drawn step on the site; the piles are those that it had, the last one being the one that it has."""
        kind = draw.random()
        if kind < 0.45:
            self.put(draw, site, piles)
        elif kind < 0.65:
            number = draw.randint(-1, 6)
            if 0 <= number < len(piles[-1]):
                piles.append(without(piles[-1], number))
                self.assertIs(site.take(number), stands(piles[-1]))
            else:
                self.assertIs(raised(site.take, number), InvalidNumber)
        elif len(piles) == 1:
            self.assertIs(raised(site.undo), NothingToUndo)
        else:
            piles.pop()
            self.assertEqual(site.undo(), piles[-1])

    def put(self, draw, site, piles):
        """Put a drawn block to the site."""
        block = drawn_block(draw, list(piles[-1]))
        if not is_pile((block,)):
            self.assertIs(raised(site.put, block), InvalidBlock)
        elif len(piles[-1]) == 6:
            self.assertIs(raised(site.put, block), TooMany)
        elif any(overlap(block, other) for other in piles[-1]):
            self.assertIs(raised(site.put, block), Inside)
        else:
            piles.append(piles[-1] + (block,))
            self.assertIs(site.put(block), stands(piles[-1]))

    def test_drawn_steps(self):
        draw = random.Random(153)
        for _ in range(60):
            known = [(Site(), [()])]
            for _ in range(40):
                site, piles = draw.choice(known)
                if draw.random() < 0.06:
                    known.append((site.duplicate(), piles[-1:]))
                else:
                    self.step(draw, site, piles)
                for other, others in known:
                    self.assertEqual(other.pile(), others[-1])
                    self.assertEqual(len(other), len(others[-1]))
                    self.assertIs(other == site, others[-1] == piles[-1])
                self.assertEqual(str(site), format_pile(piles[-1]))
            for site, piles in known:
                for pile in piles[-2::-1]:
                    self.assertEqual(site.undo(), pile)
                self.assertIs(raised(site.undo), NothingToUndo)


class WrongArgumentsTest(unittest.TestCase):
    def unchanged(self, site, pile, steps):
        """Whether the site still has the pile and so many steps."""
        self.assertEqual(site.pile(), pile)
        other = copy.deepcopy(site)
        for _ in range(steps):
            other.undo()
        self.assertIs(raised(other.undo), NothingToUndo)

    def test_wrong_blocks(self):
        sites_of = [(pile, site_of(pile)) for pile in ((), SURE, row_of_blocks(6))]
        for value in wrong_blocks():
            for pile, site in sites_of:
                self.assertIs(raised(site.put, value), InvalidBlock, value)
        for pile, site in sites_of:
            self.unchanged(site, pile, len(pile))

    def test_wrong_numbers(self):
        site = site_of(SURE)
        for value in wrong_numbers() + [-1, 2, 6, (), FIRST, nested(30), nested(30, list)]:
            self.assertIs(raised(site.take, value), InvalidNumber, value)
            self.assertIs(raised(Site().take, value), InvalidNumber, value)
        self.unchanged(site, SURE, 2)

    def test_order_of_the_exceptions(self):
        # The block is none, the site is full, a point would lie inside two blocks.
        site = site_of(row_of_blocks(6))
        self.assertIs(raised(site.put, (-20, 0, 1, 1, 10)), InvalidBlock)
        self.assertIs(raised(site.put, (-20, 0, 1, 1, 1)), TooMany)
        site.take(5)
        self.assertIs(raised(site.put, (-20, 0, 1, 1, 10)), InvalidBlock)
        self.assertIs(raised(site.put, (-20, 0, 1, 1, 1)), Inside)
        self.unchanged(site, row_of_blocks(5), 7)

    def test_true_and_false_are_not_integers(self):
        site = site_of(SURE)
        for value in (True, False):
            self.assertIs(raised(site.take, value), InvalidNumber)
        for at in range(5):
            block = [9, 0, 1, 1, 1]
            block[at] = True
            self.assertIs(raised(site.put, tuple(block)), InvalidBlock)
        self.unchanged(site, SURE, 2)

    def test_unchanged_behind_each_call_that_raises(self):
        site = site_of(SEESAW)
        site.take(3)
        site.undo()
        for call, value, error in (
            (site.put, None, InvalidBlock), (site.put, (0, 0, 9, 1, 1), InvalidBlock), (site.put, SEESAW[0], Inside),
            (site.take, 4, InvalidNumber), (site.take, -1, InvalidNumber), (site.take, None, InvalidNumber),
        ):
            self.assertIs(raised(call, value), error)
            self.unchanged(site, SEESAW, 4)
        empty = Site()
        for _ in range(3):
            self.assertIs(raised(empty.undo), NothingToUndo)
            self.unchanged(empty, (), 0)

    def test_not_modified(self):
        block = list(FIRST)
        self.assertIs(raised(Site().put, block), InvalidBlock)
        self.assertEqual(block, list(FIRST))


class InterfaceTest(unittest.TestCase):
    def test_defined_in_the_class_and_its_file(self):
        self.assertEqual(Site.__module__, "blockpiles.sites")
        self.assertIs(sites.Site, Site)
        for name in ("put", "take", "pile", "undo", "duplicate", "__len__", "__str__", "__eq__"):
            self.assertIn(name, vars(Site))

    def test_arguments_by_name(self):
        site = Site()
        self.assertIs(site.put(block=FIRST), True)
        self.assertIs(site.take(number=0), True)


if __name__ == "__main__":
    unittest.main()
