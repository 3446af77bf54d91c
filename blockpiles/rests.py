"""Whether a pile stands, with a rest or a motion that shows it."""

from math import lcm

from blockpiles.balance import balance_table, motion_of, rest_of, standing_table
from blockpiles.errors import Stands
from blockpiles.kinds import is_share_pair, is_tuple, is_whole
from blockpiles.piles import GROUND, check_pile, contacts_of, twice_middle

MOTION_LIMIT = 10 ** 12


def stands(pile):
    """Return whether a pile stands."""
    check_pile(pile)
    return balance_table(pile).is_solved()


def some_rest(pile):
    """Return a rest of a pile."""
    check_pile(pile)
    return rest_of(standing_table(pile))


def whole_shares(pairs):
    """Return a multiple of all bottoms, and the pairs of shares, each times it."""
    common = 1
    for first, second in pairs:
        common = lcm(common, first[1], second[1])
    whole = []
    for first, second in pairs:
        whole.append((first[0] * (common // first[1]), second[0] * (common // second[1])))
    return common, whole


def loads_of(found, shares):
    """Return for each contact its two blocks, its push and twice its turn."""
    loads = []
    for (lower, upper, left, right), (first, second) in zip(found, shares):
        loads.append((lower, upper, first + second, 2 * (left * first + right * second)))
    return loads


def is_in_balance(number, weight, twice_place, loads):
    """Tell whether a block is in balance with these loads."""
    push = weight
    twice_turn = weight * twice_place
    for lower, upper, load, turn in loads:
        if upper == number:
            push -= load
            twice_turn -= turn
        elif lower == number:
            push += load
            twice_turn += turn
    return push == 0 and twice_turn == 0


def is_balanced(pile, found, pairs):
    """Tell whether these shares at these contacts hold every block in balance."""
    common, shares = whole_shares(pairs)
    loads = loads_of(found, shares)
    return all([is_in_balance(k, block[4] * common, twice_middle(block), loads) for k, block in enumerate(pile)])


def is_rest(pile, value):
    """Return whether value is a rest of a pile."""
    check_pile(pile)
    found = contacts_of(pile)
    if not is_tuple(value, len(found)) or not all([is_share_pair(pair) for pair in value]):
        return False
    return is_balanced(pile, found, value)


def some_motion(pile):
    """Return a motion of a pile."""
    check_pile(pile)
    table = balance_table(pile)
    if table.is_solved():
        raise Stands("the pile has no motion")
    return motion_of(pile, table)


def is_motion_pair(value):
    """Tell whether value has the two integers of a block's motion."""
    return is_tuple(value, 2) and all([is_whole(number, -MOTION_LIMIT, MOTION_LIMIT) for number in value])


def sinks_by(motion, number, place):
    """Return what a block, or the ground, sinks by at a place."""
    if number == GROUND:
        return 0
    start, slope = motion[number]
    return start + slope * place


def keeps_contact(motion, contact):
    """Tell whether the upper block sinks at most as much as the lower one at both ends."""
    lower, upper, left, right = contact
    return all([sinks_by(motion, upper, place) <= sinks_by(motion, lower, place) for place in (left, right)])


def twice_sunk_weight(pile, motion):
    """Return twice the sum of the weights times what the middles sink by."""
    total = 0
    for block, (start, slope) in zip(pile, motion):
        total += block[4] * (2 * start + slope * twice_middle(block))
    return total


def is_motion_of(pile, value):
    """Tell whether value is a motion of what is a pile."""
    if not is_tuple(value, len(pile)) or not all([is_motion_pair(pair) for pair in value]):
        return False
    if not all([keeps_contact(value, contact) for contact in contacts_of(pile)]):
        return False
    return twice_sunk_weight(pile, value) > 0


def is_motion(pile, value):
    """Return whether value is a motion of a pile."""
    check_pile(pile)
    return is_motion_of(pile, value)
