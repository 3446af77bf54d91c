"""Tests of towers at the edge of a table ([1], [2] and [11])."""

import copy
import random
import unittest
from fractions import Fraction
from itertools import permutations
from math import gcd

from blockpiles import towers
from blockpiles.errors import InvalidTower
from blockpiles.towers import are_blocks, best_sequence, is_tower, reach, reaching_tower
from tests.samples import LIMIT, Odd, nested, odd_values, pair_of, raised, wrong_fractions, wrong_numbers
from tests.slow import leaning_tower, middle_of, rights_of, slow_is_tower, slow_reach

TWO = ((4, 1), (4, 1))
TWO_LEFTS = ((-3, 1), (-1, 1))
FIVE = ((8, 9), (7, 1), (6, 2), (5, 3), (1, 1))
TINY = Fraction(1, 10 ** 6)


def drawn_blocks(draw, many):
    """So many blocks of a tower."""
    return tuple((draw.randint(1, 8), draw.randint(1, 9)) for _ in range(many))


def drawn_towers(many, seed):
    """The blocks of so many towers, the same in each run."""
    draw = random.Random(seed)
    return [drawn_blocks(draw, draw.randint(1, 5)) for _ in range(many)]


def pairs_of(lefts):
    """The fractions of the lefts."""
    return tuple(pair_of(Fraction(left)) for left in lefts)


def all_wrong_blocks():
    """Values that are not a tower's blocks, though some come near."""
    values = odd_values() + [0, 1, (), [], (4, 1), [TWO[0]], list(TWO), [list(block) for block in TWO], (TWO,), "41"]
    values += [{4: 1}, {(4, 1)}, FIVE + ((1, 1),), TWO * 3, nested(30), nested(30, list), (4, 1, 4, 1)]
    for block in ((4,), (4, 1, 1), (), [4, 1], "41", 4, None, True, ((4, 1),), {4: 1}, Odd(), nested(29)):
        values += [(block,), (block, (4, 1)), ((4, 1), block), FIVE[:4] + (block,)]
    for number in wrong_numbers() + [0, -1, 9]:
        values += [((number, 1),), ((4, 1), (number, 1)), ((number, 1), (4, 1)), ((number, number),)]
    for number in wrong_numbers() + [0, -1, 10]:
        values += [((4, number),), ((4, 1), (4, number)), ((4, number), (4, 1))]
    return values


class AreBlocksTest(unittest.TestCase):
    def test_example(self):
        self.assertIs(are_blocks(TWO), True)

    def test_1_to_5_blocks(self):
        for many in range(8):
            self.assertIs(are_blocks(((4, 1),) * many), 1 <= many <= 5, many)

    def test_each_bound_and_one_beyond_it(self):
        for width in range(-2, 12):
            for weight in range(-2, 12):
                good = 1 <= width <= 8 and 1 <= weight <= 9
                self.assertIs(are_blocks(((width, weight),)), good)
                self.assertIs(are_blocks(FIVE[:4] + ((width, weight),)), good)
                self.assertIs(are_blocks(((width, weight),) + FIVE[1:]), good)

    def test_wrong_values(self):
        for value in all_wrong_blocks():
            self.assertIs(are_blocks(value), False, value)


class IsTowerTest(unittest.TestCase):
    def test_example(self):
        self.assertIs(is_tower(TWO, TWO_LEFTS), True)

    def test_one_block(self):
        for width in range(1, 9):
            for weight in (1, 5, 9):
                blocks = ((width, weight),)
                self.assertIs(is_tower(blocks, pairs_of([Fraction(-width, 2)])), True)
                self.assertIs(is_tower(blocks, pairs_of([Fraction(-width, 2) - TINY])), True)
                self.assertIs(is_tower(blocks, pairs_of([-1000])), True)
                self.assertIs(is_tower(blocks, pairs_of([Fraction(-width, 2) + TINY])), False)
                self.assertIs(is_tower(blocks, pairs_of([-(width // 2)])), width % 2 == 0)

    def test_the_table_takes_up_all_places_up_to_0(self):
        for shift in (0, -1, -1000, -10 ** 11):
            self.assertIs(is_tower(TWO, pairs_of([shift - 3, shift - 1])), True, shift)
        for shift in (TINY, 1, 1000):
            self.assertIs(is_tower(TWO, pairs_of([shift - 3, shift - 1])), False, shift)

    def test_the_upper_one_from_the_left_to_the_right(self):
        for left in range(-30, 1):
            lefts = pairs_of([-20, Fraction(left)])
            self.assertIs(is_tower(TWO, lefts), -22 <= left <= -18, left)
        for left in (-22 - TINY, -18 + TINY):
            self.assertIs(is_tower(TWO, pairs_of([-20, left])), False)

    def test_all_above_count_together(self):
        # The highest block has its middle beyond the lowest one, but with the middle one it does not matter.
        blocks = ((2, 1), (4, 3), (4, 1))
        for left in (-12, -11, -10, -9, -8):
            lefts = pairs_of([-10, -11, left])
            together = Fraction(3 * -9 + left + 2, 4)
            self.assertIs(is_tower(blocks, lefts), -10 <= together <= -8 and -11 <= left + 2 <= -7, left)
        self.assertIs(is_tower(((4, 1), (4, 1), (4, 9)), pairs_of([-20, -19, -18])), True)
        self.assertIs(is_tower(((4, 1), (4, 1), (4, 9)), pairs_of([-20, -18, -16])), False)
        self.assertIs(is_tower(((4, 1), (4, 9), (4, 1)), pairs_of([-20, -18, -18])), True)

    def test_the_lowest_one_alone_may_be_beyond_the_table(self):
        # Its middle is at 18 / 5, but the heavy one at its left has its own at -2 / 5.
        blocks = ((8, 1), (2, 9))
        self.assertIs(is_tower(blocks, pairs_of([-1, -1])), False)
        self.assertIs(is_tower(blocks, pairs_of([Fraction(-2, 5), Fraction(-7, 5)])), True)
        self.assertIs(is_tower(blocks, pairs_of([Fraction(-2, 5) + TINY, Fraction(-7, 5)])), False)

    def test_as_the_slow_form_tells(self):
        draw = random.Random(71)
        good = 0
        for blocks in drawn_towers(1500, 72):
            leans = [draw.choice((0, 1, Fraction(1, 2), Fraction(draw.randint(0, 9), 9))) for _ in blocks]
            lefts = leaning_tower(blocks, leans)
            at = draw.randrange(len(blocks))
            lefts[at] += draw.choice((0, 0, -1, 1, Fraction(1, 3), Fraction(-1, 2), TINY, -TINY))
            lefts = pairs_of(left - draw.choice((0, 0, 0, 1)) for left in lefts)
            told = is_tower(blocks, lefts)
            self.assertIs(told, slow_is_tower(blocks, lefts), (blocks, lefts))
            good += told
        self.assertTrue(300 < good < 1200, good)

    def test_bounds_of_tops_and_bottoms(self):
        blocks = ((4, 1),)
        for left, good in (
            ((-LIMIT, 1), True), ((-LIMIT - 1, 1), False), ((-LIMIT, LIMIT - 1), False), ((-LIMIT, 3), True),
            ((-LIMIT - 1, 3), False), ((-LIMIT, 499999999999), True), ((-2 * LIMIT - 1, LIMIT), False),
        ):
            self.assertIs(is_tower(blocks, (left,)), good, left)
        blocks = ((1, 1),)
        for left, good in (
            ((1 - LIMIT, LIMIT), True), ((-LIMIT, LIMIT + 1), False), ((-LIMIT + 1, LIMIT - 2), True),
            ((-LIMIT + 3, LIMIT + 1), False), ((-LIMIT, LIMIT - 1), True), ((-LIMIT - 1, LIMIT), False),
        ):
            self.assertIs(is_tower(blocks, (left,)), good, left)
        # Many unlike bottoms at once.
        lefts = tuple((-9 * bottom - 1, bottom) for bottom in range(LIMIT // 10 - 4, LIMIT // 10 + 1))
        self.assertTrue(all(gcd(top, bottom) == 1 for top, bottom in lefts))
        self.assertIs(is_tower(((8, 1),) * 5, lefts), True)

    def test_lowest_terms(self):
        for left in ((-6, 2), (3, -1), (-3, 0), (-9, 3)):
            self.assertIs(is_tower(TWO, (left, (-1, 1))), False, left)
        self.assertIs(is_tower(((4, 1), (4, 1)), ((-2, 1), (-2, 1))), True)
        self.assertIs(is_tower(((4, 1), (2, 1)), ((-2, 1), (0, 1))), False)
        self.assertIs(is_tower(((8, 1), (2, 1)), ((-6, 1), (0, 1))), True)
        for left in ((0, 2), (0, -1), (0, 0)):
            self.assertIs(is_tower(((8, 1), (2, 1)), ((-6, 1), left)), False, left)

    def test_wrong_lefts(self):
        wrong = [value for value in wrong_fractions() if value not in ((-1, 1),)]
        for value in wrong + [-3, "-3", (-3,), [-3, 1], (-3, 1, 1), (-3, True)]:
            self.assertIs(is_tower(((4, 1),), (value,)), False, value)
            self.assertIs(is_tower(TWO, (value, (-1, 1))), False, value)
            self.assertIs(is_tower(TWO, ((-3, 1), value)), False, value)

    def test_wrong_towers(self):
        values = odd_values() + [0, (), TWO_LEFTS[:1], TWO_LEFTS[1:], TWO_LEFTS + TWO_LEFTS[1:], list(TWO_LEFTS)]
        values += [[list(left) for left in TWO_LEFTS], (TWO_LEFTS,), {0: TWO_LEFTS}, (-3, -1), (-3, 1, -1, 1), "ab"]
        values += [nested(30), nested(30, list), TWO_LEFTS + ((0, 1),), ((-3, 1), None), (None, (-1, 1))]
        for value in values:
            self.assertIs(is_tower(TWO, value), False, value)


class ReachTest(unittest.TestCase):
    def test_examples(self):
        self.assertEqual(reach(TWO), (3, 1))
        self.assertEqual(best_sequence(((2, 1), (4, 1))), ((3, 1), ((4, 1), (2, 1))))

    def test_one_block(self):
        for width in range(1, 9):
            self.assertEqual(reach(((width, 9),)), pair_of(Fraction(width, 2)))
            self.assertEqual(reaching_tower(((width, 9),)), (pair_of(Fraction(-width, 2)),))

    def test_like_blocks(self):
        # Half a width, and a fourth, a sixth and so on.
        for many in range(1, 6):
            for width in range(1, 9):
                told = sum(Fraction(width, 2 * k) for k in range(1, many + 1))
                for weight in (1, 2, 9):
                    self.assertEqual(reach(((width, weight),) * many), pair_of(told), (many, width))

    def test_a_heavy_one_on_top(self):
        # The lowest block reaches farther than the highest one, which keeps it on the table.
        self.assertEqual(reach(((8, 1), (1, 9))), (38, 5))
        for width in range(1, 9):
            for heavy in range(1, 10):
                lowest = Fraction(width, 2) * (1 + Fraction(heavy, 1 + heavy))
                highest = Fraction(width, 2 + 2 * heavy) + Fraction(1, 2)
                self.assertEqual(reach(((width, 1), (1, heavy))), pair_of(max(lowest, highest)), (width, heavy))
        # The one in the middle reaches farthest.
        blocks = ((1, 9), (8, 1), (1, 9))
        self.assertEqual(reach(blocks), pair_of(Fraction(9, 38) + 4 * (1 + Fraction(9, 10))))
        lefts = [Fraction(*left) for left in reaching_tower(blocks)]
        self.assertEqual(rights_of(blocks, lefts).index(Fraction(*reach(blocks))), 1)

    def test_within_bounds_and_lowest_terms(self):
        for blocks in drawn_towers(400, 73) + [((8, 9),) * 5, ((7, 9), (8, 8), (7, 9), (8, 7), (7, 9)), FIVE]:
            for value in (reach(blocks),) + reaching_tower(blocks):
                self.assertIs(type(value), tuple)
                top, bottom = value
                self.assertEqual((type(top), type(bottom)), (int, int))
                self.assertTrue(abs(top) <= LIMIT and 0 < bottom <= LIMIT and gcd(top, bottom) == 1, value)

    def test_0_as_0_and_1(self):
        # The left of the second block is just at the edge, and no other tower reaches as far.
        self.assertEqual(reaching_tower(((4, 3), (3, 1))), ((-5, 2), (0, 1)))
        self.assertEqual(reaching_tower(((8, 3), (6, 1))), ((-5, 1), (0, 1)))

    def test_the_tower_has_the_reach(self):
        for blocks in drawn_towers(1000, 74):
            tower = reaching_tower(blocks)
            self.assertIs(type(tower), tuple)
            self.assertEqual(len(tower), len(blocks))
            self.assertIs(is_tower(blocks, tower), True, blocks)
            self.assertTrue(slow_is_tower(blocks, tower), blocks)
            told = max(rights_of(blocks, [Fraction(*left) for left in tower]))
            self.assertEqual(pair_of(told), reach(blocks), blocks)

    def test_as_the_slow_form_tells(self):
        by = [0] * 5
        for blocks in drawn_towers(600, 75):
            told = reach(blocks)
            self.assertEqual(told, pair_of(slow_reach(blocks)), blocks)
            rights = rights_of(blocks, [Fraction(*left) for left in reaching_tower(blocks)])
            by[rights.index(Fraction(*told))] += 1
        self.assertTrue(all(by), by)

    def test_no_tower_reaches_farther(self):
        draw = random.Random(76)
        for blocks in drawn_towers(600, 77):
            told = Fraction(*reach(blocks))
            for _ in range(4):
                lefts = leaning_tower(blocks, [Fraction(draw.randint(0, 6), 6) for _ in blocks])
                self.assertEqual(middle_of(blocks, lefts), 0)
                self.assertIs(is_tower(blocks, pairs_of(lefts)), True)
                self.assertLessEqual(max(rights_of(blocks, lefts)), told)

    def test_all_weights_times_a_number(self):
        for blocks in drawn_towers(200, 78):
            if max(weight for _, weight in blocks) <= 4:
                self.assertEqual(reach(tuple((width, 2 * weight) for width, weight in blocks)), reach(blocks))


class BestSequenceTest(unittest.TestCase):
    def test_one_block(self):
        self.assertEqual(best_sequence(((3, 9),)), ((3, 2), ((3, 9),)))

    def test_like_blocks(self):
        for many in range(1, 6):
            blocks = ((6, 2),) * many
            self.assertEqual(best_sequence(blocks), (reach(blocks), blocks))

    def test_first_of_several(self):
        for blocks in permutations(((8, 1), (1, 1), (1, 9))):
            told, sequence = best_sequence(blocks)
            good = [other for other in permutations(blocks) if reach(other) == told]
            self.assertEqual(sequence, min(good))

    def test_the_same_for_each_sequence(self):
        draw = random.Random(79)
        for blocks in drawn_towers(60, 80):
            mixed = tuple(draw.sample(blocks, len(blocks)))
            self.assertEqual(best_sequence(mixed), best_sequence(blocks))

    def test_no_sequence_reaches_farther(self):
        several = 0
        for blocks in drawn_towers(120, 81) + [((2, 1),) * 2 + ((3, 2),) * 3, ((4, 1), (4, 2), (4, 1), (4, 2), (4, 3))]:
            answer = best_sequence(blocks)
            self.assertIs(type(answer), tuple)
            told, sequence = answer
            self.assertIs(type(sequence), tuple)
            reaches = {other: Fraction(*reach(other)) for other in permutations(blocks)}
            self.assertEqual(told, pair_of(max(reaches.values())), blocks)
            good = [other for other in reaches if reaches[other] == max(reaches.values())]
            self.assertEqual(sequence, min(good), blocks)
            several += len(good) > 1
        self.assertGreater(several, 10)


class WrongArgumentsTest(unittest.TestCase):
    def test_wrong_blocks(self):
        for value in all_wrong_blocks():
            for function in (reach, reaching_tower, best_sequence):
                self.assertIs(raised(function, value), InvalidTower, value)
            for lefts in (TWO_LEFTS, (), None):
                self.assertIs(raised(is_tower, value, lefts), InvalidTower, value)

    def test_true_and_false_are_not_integers(self):
        for block in ((True, 1), (4, True), (True, True), (False, 1)):
            self.assertIs(are_blocks((block,)), False)
            self.assertIs(raised(reach, (block,)), InvalidTower)
        self.assertIs(is_tower(((2, 1),), ((-1, True),)), False)
        self.assertIs(is_tower(((2, 1),), ((-1, 1),)), True)

    def test_no_exception_for_good_ones(self):
        for many in range(1, 6):
            for function in (reach, reaching_tower, best_sequence):
                self.assertIsNone(raised(function, FIVE[:many]))
            self.assertIsNone(raised(is_tower, FIVE[:many], None))

    def test_not_modified(self):
        blocks = [[4, 1], [4, 1]]
        lefts = [[-3, 1], [-1, 1]]
        before = copy.deepcopy((blocks, lefts))
        self.assertIs(are_blocks(blocks), False)
        self.assertIs(are_blocks(tuple(blocks)), False)
        self.assertIs(is_tower(TWO, lefts), False)
        self.assertIs(is_tower(TWO, tuple(lefts)), False)
        for function in (reach, reaching_tower, best_sequence):
            self.assertIs(raised(function, blocks), InvalidTower)
        self.assertEqual((blocks, lefts), before)


class InterfaceTest(unittest.TestCase):
    def test_defined_in_their_file(self):
        for name in ("are_blocks", "is_tower", "reach", "reaching_tower", "best_sequence"):
            self.assertEqual(getattr(towers, name).__module__, "blockpiles.towers")

    def test_arguments_by_name(self):
        self.assertIs(are_blocks(value=TWO), True)
        self.assertIs(is_tower(blocks=TWO, value=TWO_LEFTS), True)
        self.assertEqual(reach(blocks=TWO), (3, 1))
        self.assertIs(is_tower(TWO, reaching_tower(blocks=TWO)), True)
        self.assertEqual(best_sequence(blocks=((2, 1), (4, 1))), ((3, 1), ((4, 1), (2, 1))))


if __name__ == "__main__":
    unittest.main()
