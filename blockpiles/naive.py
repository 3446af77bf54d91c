"""Answers by going through all that there is, to compare others with."""

from blockpiles.errors import InvalidNumber
from blockpiles.kinds import is_whole
from blockpiles.piles import check_pile
from blockpiles.props import all_bought, check_offers, price_of, stands_with
from blockpiles.rests import is_motion_of

MOST_BLOCKS = 2
MOST_INTEGER = 4


def small_motions(many, most):
    """Return the ascending list of what may be motions of so many blocks, with integers from -most to most."""
    span = range(-most, most + 1)
    pairs = [(start, slope) for start in span for slope in span]
    found = [()]
    for _ in range(many):
        found = [motion + (pair,) for motion in found for pair in pairs]
    return found


def naive_tips(pile, most):
    """Return the first motion of at most two blocks with integers from -most to most, or None."""
    check_pile(pile)
    if len(pile) > MOST_BLOCKS:
        raise InvalidNumber("the pile has too many blocks to go through all motions")
    if not is_whole(most, 0, MOST_INTEGER):
        raise InvalidNumber("this is not a greatest integer of small motions")
    for motion in small_motions(len(pile), most):
        if is_motion_of(pile, motion):
            return motion
    return None


def naive_least_price(pile, offers):
    """Return the least price of a cure, or None if there is none."""
    check_pile(pile)
    check_offers(pile, offers)
    prices = [price_of(pile, offers, bought) for bought in all_bought(offers) if stands_with(pile, bought)]
    return min(prices, default=None)
