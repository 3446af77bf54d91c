"""Piles and wrong values for the tests."""

import random
from fractions import Fraction

from blockpiles.errors import PileError
from blockpiles.rests import some_motion

LIMIT = 10 ** 12

SURE = ((0, 0, 4, 1, 2), (2, 1, 4, 1, 2))
LOOSE = ((0, 0, 4, 1, 2), (3, 1, 4, 1, 2))

# A plank on two pillars: its rests are not unique once a block stands on it.
BRIDGE = ((0, 0, 2, 1, 1), (6, 0, 2, 1, 1), (0, 1, 8, 1, 3))
# The weight at one end of the plank keeps it on its only pillar.
COUNTERWEIGHT = ((0, 0, 2, 1, 1), (0, 1, 8, 1, 1), (0, 2, 1, 1, 9))
# Two planks reach over the gap between two pillars, and carry two blocks in the
# middle of it: just so, for neither plank may be any lighter.
ARCH = (
    (0, 0, 4, 2, 3),
    (8, 0, 4, 2, 3),
    (1, 2, 5, 1, 6),
    (6, 2, 5, 1, 6),
    (5, 3, 2, 1, 1),
    (5, 4, 2, 4, 5),
)

# A plank on a pillar, with a block at each end of it: either may be too heavy.
SEESAW = ((3, 0, 2, 1, 1), (0, 1, 8, 1, 1), (0, 2, 1, 1, 3), (7, 2, 1, 1, 3))

# The least and the greatest of a block's five integers.
BOUNDS = ((-20, 20), (0, 20), (1, 8), (1, 4), (1, 9))


class Odd:
    """An object of no kind that the document knows."""


class Anything:
    """An object that takes itself for equal to each other one."""

    def __eq__(self, other):
        return True


def nested(depth, make=tuple):
    """An empty tuple or list within others, so many deep."""
    value = make()
    for _ in range(depth - 1):
        value = make([value])
    return value


def odd_values():
    """Objects that are not numbers, and no tuples that may be meant."""
    return [
        None, True, False, "", "nothing", "0 0 4 1 2", b"", b"ab", [], {}, set(), frozenset(),
        Odd(), Odd, len, range(3), nested(30), nested(30, list), 1 + 2j, NotImplemented, ...,
        [None], [True], {0: 1}, {1, 2}, (None,), ((),), ([],),
    ]


def wrong_numbers():
    """Objects that are not integers of any use, some of them equal to 0 or 1."""
    return odd_values() + ["0", "1", (0,), (0, 1), [0], Fraction(0), Fraction(1), {0}, 10 ** 30, -10 ** 30]


def wrong_fractions():
    """Values that are no shares, some of them equal to 1 in another form."""
    return odd_values() + [
        0, 1, (1,), (1, 1, 1), [1, 1], (2, 2), (-1, -1), (0, 2), (0, 0), (0, -1), (1, 0), (1, -1), (-1, 1),
        (LIMIT + 1, 1), (LIMIT + 1, LIMIT), (1, LIMIT + 1), (LIMIT + 1, LIMIT + 2), (True, 1), (1, True),
        (True, True), (False, 1), (None, 1), (1, None), ("1", 1), (1, "1"), ((1,), 1), (1, [1]), "11",
        (10 ** 4000, 1), (1, 10 ** 4000), (nested(29), 1), Fraction(1), ((1, 1), (0, 1)),
    ]


def wrong_integers():
    """Values that may not stand in a motion, some of them equal to 0 or 1."""
    return odd_values() + ["0", "1", (0,), (0, 1), [0], Fraction(1), LIMIT + 1, -LIMIT - 1, 10 ** 4000]


def raised(function, *arguments):
    """The class of the exception that the call raises, or None."""
    try:
        function(*arguments)
    except PileError as error:
        return type(error)
    return None


def pair_of(number):
    """The fraction of a Fraction."""
    return (number.numerator, number.denominator)


def without(value, at):
    """The tuple without the item there."""
    return value[:at] + value[at + 1:]


def changed(value, at, item):
    """The tuple with another item there."""
    return value[:at] + (item,) + value[at + 1:]


def wrong_blocks():
    """Values that are not blocks, though some come near."""
    block = (0, 0, 4, 1, 2)
    values = odd_values() + [0, 1, -1, (), list(block), "00412", block + (1,), block[:4], (block,)]
    for at, (least, most) in enumerate(BOUNDS):
        for item in odd_values() + [least - 1, most + 1, -10 ** 30, 10 ** 30, str(least), (least,), [least]]:
            values.append(changed(block, at, item))
        values.append(without(block, at))
    return values


def wrong_piles():
    """Values that are not piles, though some come near."""
    values = odd_values() + [0, 1, -1, 10 ** 30]
    values += [(wrong,) for wrong in wrong_blocks()]
    values += [SURE + (wrong,) for wrong in wrong_blocks()]
    values += [(wrong,) + SURE for wrong in wrong_blocks()]
    values += [SURE[0], list(SURE), [list(block) for block in SURE], (SURE,), {SURE[0]: SURE[1]}]
    values += [(SURE[0], SURE[0]), SURE + ((3, 0, 1, 4, 1),), row_of_blocks(7)]
    return values


def row_of_blocks(many):
    """So many blocks beside one another on the ground."""
    return tuple((-20 + 2 * k, 0, 1 + k % 2, 1, 1 + k) for k in range(many))


def overlap(first, second):
    """Whether the unit squares of two blocks have one in common."""
    return bool(squares(first) & squares(second))


def squares(block):
    """The unit squares that a block takes up."""
    left, bottom, width, height, _ = block
    return {(x, y) for x in range(left, left + width) for y in range(bottom, bottom + height)}


def drawn_block(draw, blocks):
    """A block on the ground, or on one of the blocks, or rarely anywhere."""
    width, height, weight = draw.randint(1, 8), draw.randint(1, 4), draw.randint(1, 9)
    kind = draw.random()
    if not blocks or kind < 0.15:
        return (draw.randint(-20, 20), 0, width, height, weight)
    if kind < 0.18:
        return (draw.randint(-20, 20), draw.randint(0, 20), width, height, weight)
    below = draw.choice(blocks)
    left = draw.randint(below[0] - width, below[0] + below[2])
    if kind < 0.4:
        left = below[0] + draw.choice((0, below[2] - width))
    return (left, below[1] + below[3], width, height, weight)


def drawn_pile(draw, many):
    """A pile with so many blocks, in any order."""
    blocks = []
    while len(blocks) < many:
        block = drawn_block(draw, blocks)
        inside = all(low <= part <= high for part, (low, high) in zip(block, BOUNDS))
        if inside and not any(overlap(block, other) for other in blocks):
            blocks.append(block)
    draw.shuffle(blocks)
    return tuple(blocks)


def drawn_piles(many, seed):
    """So many piles with up to six blocks, the same in each run."""
    draw = random.Random(seed)
    return [drawn_pile(draw, draw.choice((0, 1, 2, 3, 3, 4, 4, 5, 5, 6, 6, 6))) for _ in range(many)]


def dropped_block(draw, blocks):
    """A block that falls down to the ground or to the blocks."""
    left, width = draw.randint(-6, 5), draw.choice((1, 2, 2, 3, 4, 5, 6, 7, 8))
    tops = [other[1] + other[3] for other in blocks if other[0] < left + width and left < other[0] + other[2]]
    return (left, max(tops, default=0), width, draw.choice((1, 1, 1, 2)), draw.randint(1, 9))


def dropped_piles(many, seed):
    """So many piles with up to six blocks, many of which have several rests, the same in each run."""
    draw = random.Random(seed)
    piles = []
    for _ in range(many):
        blocks = []
        for _ in range(draw.choice((2, 3, 4, 5, 5, 6, 6, 6))):
            blocks.append(dropped_block(draw, blocks))
        draw.shuffle(blocks)
        piles.append(tuple(blocks))
    return piles


def all_props(pile):
    """The ascending tuple of all props of a pile, however many."""
    ends = [(number, block[0], block[0] + block[2]) for number, block in enumerate(pile)]
    return tuple((number, place) for number, left, right in ends for place in range(left, right + 1))


def drawn_props(draw, pile, many):
    """So many props of a pile, or as many as there are."""
    props = all_props(pile)
    return tuple(sorted(draw.sample(props, min(many, len(props)))))


def drawn_offers(draw, pile, many, dearest=9):
    """So many offers of a pile, or as many as there are props."""
    return tuple((prop, draw.randint(1, dearest)) for prop in drawn_props(draw, pile, many))


def useful_offers(draw, pile, many, dearest=9):
    """So many offers of a pile of props that are mostly below blocks at which a motion sinks."""
    motion = some_motion(pile)
    props = [(k, place) for k, place in all_props(pile) if motion[k][0] + motion[k][1] * place > 0]
    props = draw.sample(props, min(many - 1, len(props)))
    props += draw.sample(all_props(pile), many - len(props))
    return tuple((prop, draw.randint(1, dearest)) for prop in sorted(set(props)))


def mirrored_props(props):
    """The props of the mirrored pile."""
    return tuple(sorted((number, -place) for number, place in props))


def shifted(pile, steps):
    """The blocks further to the right."""
    return tuple((block[0] + steps,) + block[1:] for block in pile)


def side_by_side(first, second):
    """One pile of both, or None if there is no room."""
    start = min((block[0] for block in first), default=0)
    end = max((block[0] + block[2] for block in first), default=0)
    there = min((block[0] for block in second), default=0)
    left, right = -20 - start, end - 20 - start + 1 - there
    blocks = shifted(first, left) + shifted(second, right)
    if len(blocks) > 6 or any(not -20 <= block[0] <= 20 for block in blocks):
        return None
    return blocks, left, right
