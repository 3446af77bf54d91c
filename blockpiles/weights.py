"""The weights with which a pile stands."""

from blockpiles.balance import balance_table, greatest_sum, least_sum, load_table
from blockpiles.errors import InvalidBounds
from blockpiles.kinds import is_tuple, is_whole
from blockpiles.piles import check_number, check_pile, twice_middle

WEIGHT_LIMIT = 9


def weighted(block, weight):
    """Return the block with another weight, which may be 0."""
    return block[:4] + (weight,)


def weight_span(pile, block):
    """Return the least and the greatest weight of a block with which a pile stands.

    The greatest one is None without bound; all is None if there is no such weight.
    """
    check_pile(pile)
    check_number(pile, block)
    bare = pile[:block] + (weighted(pile[block], 0),) + pile[block + 1:]
    table = load_table(bare, block, twice_middle(pile[block]))
    if not table.is_solved():
        return None
    weight = (table.many - 1,)
    least = least_sum(table, weight)
    return (least, greatest_sum(table, weight))


def is_bound(value):
    """Tell whether value bounds the weight of a block."""
    if not is_tuple(value, 2):
        return False
    low, high = value
    return is_whole(low, 0, WEIGHT_LIMIT) and is_whole(high, low, WEIGHT_LIMIT)


def check_bounds(pile, value):
    """Raise InvalidBounds if value does not bound the weights of a pile."""
    if not is_tuple(value, len(pile)) or not all([is_bound(bound) for bound in value]):
        raise InvalidBounds("these are not bounds of the weights")


def utmost_weights(bounds):
    """Return the ascending list of the weights each of which is one of its two bounds."""
    found = [()]
    for low, high in bounds:
        ends = (low, high) if low < high else (low,)
        found = [weights + (end,) for weights in found for end in ends]
    return found


def tipping_weights(pile, bounds):
    """Return the first weights, each of them one of its two bounds, with which a pile tips, or None."""
    check_pile(pile)
    check_bounds(pile, bounds)
    for weights in utmost_weights(bounds):
        blocks = tuple([weighted(block, weight) for block, weight in zip(pile, weights)])
        if not balance_table(blocks).is_solved():
            return weights
    return None


def stands_always(pile, bounds):
    """Return whether a pile stands for all weights within the bounds."""
    # The weights with which it stands have no gap between them, so that the utmost ones tell of all.
    return tipping_weights(pile, bounds) is None
