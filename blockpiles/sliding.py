"""How far a block can be pushed while all others stay."""

from blockpiles.balance import balance_table, standing_table
from blockpiles.errors import InvalidSide
from blockpiles.kinds import is_whole
from blockpiles.piles import check_number, check_pile, is_free

MOST_STEPS = 40


def check_side(value):
    """Raise InvalidSide if value is neither the right nor the left."""
    if not is_whole(value, -1, 1) or value == 0:
        raise InvalidSide("this is not a side")


def pushed(pile, number, steps):
    """Return the blocks when one of them is moved to the right, or to the left by less than 0 steps."""
    block = pile[number]
    return pile[:number] + ((block[0] + steps,) + block[1:],) + pile[number + 1:]


def stays(blocks, number):
    """Tell whether a pushed block has room, and all blocks stand."""
    return is_free(blocks[number], blocks[:number] + blocks[number + 1:]) and balance_table(blocks).is_solved()


def farthest(pile, block, side):
    """Return the greatest number of steps, up to 40, that a block can be pushed to a side."""
    check_pile(pile)
    check_number(pile, block)
    check_side(side)
    # It raises Tips if the pile does not stand before the first step.
    standing_table(pile)
    steps = 0
    while steps < MOST_STEPS and stays(pushed(pile, block, side * (steps + 1)), block):
        steps += 1
    return steps
