"""Blocks, piles and the contacts of their blocks."""

from blockpiles.errors import InvalidNumber, InvalidPile
from blockpiles.kinds import is_tuple, is_whole

MOST_BLOCKS = 6
GROUND = -1
BLOCK_BOUNDS = ((-20, 20), (0, 20), (1, 8), (1, 4), (1, 9))


def right_of(block):
    """Return the right of a block."""
    return block[0] + block[2]


def top_of(block):
    """Return the top of a block."""
    return block[1] + block[3]


def twice_middle(block):
    """Return twice the middle of a block, which is whole."""
    return 2 * block[0] + block[2]


def is_block(value):
    """Tell whether value is a block."""
    if not is_tuple(value, len(BLOCK_BOUNDS)):
        return False
    return all([is_whole(number, least, most) for number, (least, most) in zip(value, BLOCK_BOUNDS)])


def overlap(first, second):
    """Tell whether a point lies inside both of two blocks."""
    beside = right_of(first) <= second[0] or right_of(second) <= first[0]
    above = top_of(first) <= second[1] or top_of(second) <= first[1]
    return not beside and not above


def is_free(block, others):
    """Tell whether no point lies inside a block and one of the others."""
    return not any([overlap(block, other) for other in others])


def is_pile(value):
    """Tell whether value is a pile."""
    if not isinstance(value, tuple) or len(value) > MOST_BLOCKS:
        return False
    if not all([is_block(block) for block in value]):
        return False
    return all([is_free(block, value[:k]) for k, block in enumerate(value)])


def check_pile(value):
    """Raise InvalidPile if value is not a pile."""
    if not is_pile(value):
        raise InvalidPile("this is not a pile")


def check_number(pile, value):
    """Raise InvalidNumber if value is not the number of a block of a pile."""
    if not is_whole(value, 0, len(pile) - 1):
        raise InvalidNumber("this is not the number of a block")


def contacts_under(pile, upper):
    """Return the contacts of which this block is the upper one."""
    block = pile[upper]
    found = []
    if block[1] == 0:
        found.append((GROUND, upper, block[0], right_of(block)))
    for lower, other in enumerate(pile):
        left = max(block[0], other[0])
        right = min(right_of(block), right_of(other))
        if block[1] == top_of(other) and left < right:
            found.append((lower, upper, left, right))
    return found


def contacts_of(pile):
    """Return the ascending contacts of blocks that need not keep to a pile's bounds."""
    found = []
    for upper in range(len(pile)):
        found.extend(contacts_under(pile, upper))
    return sorted(found)


def contacts(pile):
    """Return the ascending list of the contacts of a pile."""
    check_pile(pile)
    return contacts_of(pile)


def mirrored(pile):
    """Return the pile in which each block's left is the opposite of its right."""
    check_pile(pile)
    return tuple([(-right_of(block),) + block[1:] for block in pile])
