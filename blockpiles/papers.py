"""Papers that no cure has a lesser price, and the judge of them."""

from blockpiles.errors import InvalidNumber
from blockpiles.kinds import is_ascending, is_tuple, is_whole
from blockpiles.piles import check_pile
from blockpiles.props import are_bought, check_offers, is_motion_past, motion_with, price_sum, touches

MOST_PRICE = 99
DEAR = "dear"
MOTION = "motion"


def check_price(value):
    """Raise InvalidNumber if value is not a price that a paper may be for."""
    if not is_whole(value, 0, MOST_PRICE):
        raise InvalidNumber("this is not a price")


def bought_beyond(offers, bought, motion):
    """Return the bought props with one more, for each further offered prop that touches a motion."""
    return [tuple(sorted(bought + (prop,))) for prop, _ in offers if prop not in bought and touches(prop, motion)]


def paper(pile, offers, price):
    """Return a paper for a price, or None if there is none."""
    check_pile(pile)
    check_offers(pile, offers)
    check_price(price)
    reasons = {}
    waiting = [()]
    while waiting:
        bought = waiting.pop()
        if bought in reasons:
            continue
        if price_sum(offers, bought) >= price:
            reasons[bought] = (DEAR,)
            continue
        motion = motion_with(pile, bought)
        if motion is None:
            return None
        reasons[bought] = (MOTION, motion)
        waiting.extend(bought_beyond(offers, bought, motion))
    return [(props, reasons[props]) for props in sorted(reasons)]


def is_reason(pile, offers, price, bought, value):
    """Tell whether value is a right reason for bought props."""
    if not isinstance(value, tuple) or not value or not isinstance(value[0], str):
        return False
    if value[0] == DEAR:
        return len(value) == 1 and price_sum(offers, bought) >= price
    return len(value) == 2 and value[0] == MOTION and is_motion_past(pile, bought, value[1])


def is_entry(pile, offers, price, value):
    """Tell whether value is bought props with a right reason for them."""
    if not is_tuple(value, 2):
        return False
    bought, reason = value
    return are_bought(pile, offers, bought) and is_reason(pile, offers, price, bought, reason)


def needed_beside(offers, bought, reason):
    """Return the bought props that a paper must have beside these ones with their reason."""
    if reason[0] == DEAR:
        return []
    return bought_beyond(offers, bought, reason[1])


def is_paper(pile, offers, price, value):
    """Return whether value is a paper for a price."""
    check_pile(pile)
    check_offers(pile, offers)
    check_price(price)
    if not isinstance(value, list) or not all([is_entry(pile, offers, price, entry) for entry in value]):
        return False
    listed = [bought for bought, _ in value]
    if not is_ascending(listed) or () not in listed:
        return False
    return all([needed in listed for bought, reason in value for needed in needed_beside(offers, bought, reason)])
