"""Towers at the edge of a table, and how far they reach over it.

A tower reaches farthest with one of its blocks when each block below that one
has the middle of weight of all those above it at its right, that block itself
has it at its left, and the middle of weight of all blocks is at the edge.
"""

from itertools import permutations
from math import lcm

from blockpiles.errors import InvalidTower
from blockpiles.kinds import is_fraction, is_tuple, is_whole, reduced

MOST_BLOCKS = 5
MOST_WIDTH = 8
MOST_WEIGHT = 9


def is_tower_block(value):
    """Tell whether value is a block of a tower."""
    if not is_tuple(value, 2):
        return False
    width, weight = value
    return is_whole(width, 1, MOST_WIDTH) and is_whole(weight, 1, MOST_WEIGHT)


def are_blocks(value):
    """Return whether value are a tower's blocks."""
    if not isinstance(value, tuple) or not 1 <= len(value) <= MOST_BLOCKS:
        return False
    return all([is_tower_block(block) for block in value])


def check_blocks(value):
    """Raise InvalidTower if value are not a tower's blocks."""
    if not are_blocks(value):
        raise InvalidTower("these are not a tower's blocks")


def weights_from(blocks):
    """Return for each block the weight of it and all those above it."""
    return [sum([weight for _, weight in blocks[k:]]) for k in range(len(blocks))]


def whole_lefts(lefts):
    """Return a multiple of all bottoms, and the lefts, each times it."""
    common = 1
    for left in lefts:
        common = lcm(common, left[1])
    return common, [top * (common // bottom) for top, bottom in lefts]


def twice_turns_from(blocks, lefts, unit):
    """Return for each block the weights times twice the middles, of it and all those above it together.

    The lefts are whole multiples of 1 / unit, and so are the middles.
    """
    turns = [weight * (2 * left + width * unit) for (width, weight), left in zip(blocks, lefts)]
    return [sum(turns[k:]) for k in range(len(turns))]


def is_tower(blocks, value):
    """Return whether value is a tower of these blocks that stands."""
    check_blocks(blocks)
    if not is_tuple(value, len(blocks)) or not all([is_fraction(number) for number in value]):
        return False
    unit, lefts = whole_lefts(value)
    weights = weights_from(blocks)
    turns = twice_turns_from(blocks, lefts, unit)
    if turns[0] > 0:
        return False
    for k in range(1, len(blocks)):
        left = lefts[k - 1]
        right = left + blocks[k - 1][0] * unit
        if not 2 * left * weights[k] <= turns[k] <= 2 * right * weights[k]:
            return False
    return True


def common_weight(blocks):
    """Return a multiple of all weights of a block and all those above it."""
    common = 1
    for weight in weights_from(blocks):
        common = lcm(common, weight)
    return common


def lefts_toward(blocks, number, common):
    """Return the lefts of a tower that reaches as far as it can with this block, each times twice the common weight."""
    weights = weights_from(blocks)
    # The middle of weight of the block and all those above it.
    middle = 0
    lefts = []
    for k, (width, weight) in enumerate(blocks):
        half = width * common
        # Where the middle of weight of those above it is, from the block's own middle.
        lean = half if k < number else -half
        lefts.append(middle - lean * (weights[k] - weight) // weights[k] - half)
        middle += lean * weight // weights[k]
    return lefts


def farthest_tower(blocks):
    """Return the greatest reach and the lefts of a tower that has it, and the bottom of all these."""
    common = common_weight(blocks)
    found = []
    for k, block in enumerate(blocks):
        lefts = lefts_toward(blocks, k, common)
        found.append((lefts[k] + 2 * block[0] * common, lefts))
    right, lefts = max(found)
    return right, lefts, 2 * common


def reach_of(blocks):
    """Return the greatest reach of all towers of what are a tower's blocks."""
    right, _, bottom = farthest_tower(blocks)
    return reduced(right, bottom)


def reach(blocks):
    """Return the greatest reach of all towers of these blocks that stand."""
    check_blocks(blocks)
    return reach_of(blocks)


def reaching_tower(blocks):
    """Return a tower of these blocks that stands and has the greatest reach."""
    check_blocks(blocks)
    _, lefts, bottom = farthest_tower(blocks)
    return tuple([reduced(left, bottom) for left in lefts])


def is_greater(first, second):
    """Tell whether a fraction is greater than another one."""
    return first[0] * second[1] > second[0] * first[1]


def best_sequence(blocks):
    """Return the greatest reach of all sequences of these blocks, and the first sequence with it."""
    check_blocks(blocks)
    ascending = sorted(blocks)
    best = tuple(ascending)
    farthest = reach_of(best)
    # They come in ascending order, for the blocks are ascending.
    for sequence in permutations(ascending):
        told = reach_of(sequence)
        if is_greater(told, farthest):
            best = sequence
            farthest = told
    return (farthest, best)
