"""Held blocks, orders of building, and spare blocks.

A set of blocks is told by an integer: block k is in it if it has the bit 1 << k.
"""

from itertools import combinations

from blockpiles.balance import balance_table
from blockpiles.errors import InvalidHeld, InvalidNumber
from blockpiles.kinds import is_ascending, is_tuple, is_whole
from blockpiles.piles import MOST_BLOCKS, check_pile


def check_held(pile, value):
    """Raise InvalidHeld if value is not an ascending tuple of numbers of blocks."""
    if not isinstance(value, tuple) or not all([is_whole(number, 0, len(pile) - 1) for number in value]):
        raise InvalidHeld("these are not numbers of blocks")
    if not is_ascending(value):
        raise InvalidHeld("these numbers are not ascending")


def stands_held(pile, held):
    """Return whether a pile stands with some blocks held."""
    check_pile(pile)
    check_held(pile, held)
    return balance_table(pile, held).is_solved()


def stands_by_hands(blocks, hands):
    """Tell whether blocks stand with at most so many of them held."""
    if hands >= len(blocks):
        return True
    # Fewer held ones need not be tried: a block that is held without need does no harm.
    for held in combinations(range(len(blocks)), hands):
        if balance_table(blocks, held).is_solved():
            return True
    return False


def fewest_held(pile):
    """Return the least number of blocks such that a pile stands with some so many held."""
    check_pile(pile)
    many = 0
    while not stands_by_hands(pile, many):
        many += 1
    return many


def check_hands(value):
    """Raise InvalidNumber if value is not a number of hands."""
    if not is_whole(value, 0, MOST_BLOCKS):
        raise InvalidNumber("this is not a number of hands")


def check_order(pile, value):
    """Raise InvalidNumber if value is not an order of a pile."""
    if not is_tuple(value, len(pile)) or not all([is_whole(number, 0, len(pile) - 1) for number in value]):
        raise InvalidNumber("these are not numbers of blocks")
    if sorted(value) != list(range(len(pile))):
        raise InvalidNumber("this is not an order of the blocks")


def builds(pile, order, hands):
    """Return whether an order builds a pile with a number of hands."""
    check_pile(pile)
    check_order(pile, order)
    check_hands(hands)
    for many in range(1, len(order) + 1):
        if not stands_by_hands(tuple([pile[k] for k in order[:many]]), hands):
            return False
    return True


def has_block(chosen, k):
    """Tell whether a block is in a set."""
    return (chosen >> k) & 1 == 1


def with_block(chosen, k):
    """Return a set with this block too."""
    return chosen | (1 << k)


def blocks_within(pile, chosen):
    """Return the blocks that are in a set."""
    return tuple([block for k, block in enumerate(pile) if has_block(chosen, k)])


def numbers_beyond(pile, chosen):
    """Return the ascending numbers of the blocks that are not in a set."""
    return [k for k in range(len(pile)) if not has_block(chosen, k)]


def ways_on(pile, hands):
    """Return for each set of blocks in how many ways a pile can be built from this beginning on.

    There are none if the beginning itself does not stand with so many hands.
    """
    every = (1 << len(pile)) - 1
    ways = [0] * every + [1]
    for chosen in range(every, -1, -1):
        if chosen < every:
            ways[chosen] = sum([ways[with_block(chosen, k)] for k in numbers_beyond(pile, chosen)])
        if ways[chosen] > 0 and not stands_by_hands(blocks_within(pile, chosen), hands):
            ways[chosen] = 0
    return ways


def first_order(pile, hands):
    """Return the first order that builds a pile with a number of hands, or None."""
    check_pile(pile)
    check_hands(hands)
    ways = ways_on(pile, hands)
    if ways[0] == 0:
        return None
    order = ()
    chosen = 0
    while len(order) < len(pile):
        number = min([k for k in numbers_beyond(pile, chosen) if ways[with_block(chosen, k)] > 0])
        order = order + (number,)
        chosen = with_block(chosen, number)
    return order


def count_orders(pile, hands):
    """Return the number of the orders that build a pile with a number of hands."""
    check_pile(pile)
    check_hands(hands)
    return ways_on(pile, hands)[0]


def fewest_hands(pile):
    """Return the least number of hands with which some order builds a pile."""
    check_pile(pile)
    hands = 0
    while ways_on(pile, hands)[0] == 0:
        hands += 1
    return hands


def spare_blocks(pile):
    """Return the ascending list of the numbers of the blocks without which a pile stands."""
    check_pile(pile)
    return [k for k in range(len(pile)) if balance_table(pile[:k] + pile[k + 1:]).is_solved()]
