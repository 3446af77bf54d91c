"""Props under the blocks of a pile, and the cheapest ones with which it stands."""

from blockpiles.balance import motion_of, propped_table
from blockpiles.errors import InvalidOffers, InvalidProps
from blockpiles.kinds import is_ascending, is_share, is_share_pair, is_tuple, is_whole
from blockpiles.piles import GROUND, check_pile, contacts_of, right_of
from blockpiles.rests import is_balanced, is_motion_of, sinks_by

MOST_PROPS = 8
MOST_OFFERS = 6
MOST_PRICE = 9


def is_prop(pile, value):
    """Tell whether value is a prop of what is a pile."""
    if not is_tuple(value, 2):
        return False
    number, place = value
    if not is_whole(number, 0, len(pile) - 1):
        return False
    return is_whole(place, pile[number][0], right_of(pile[number]))


def are_props_of(pile, value):
    """Tell whether value are props of what is a pile."""
    if not isinstance(value, tuple) or len(value) > MOST_PROPS:
        return False
    return all([is_prop(pile, prop) for prop in value]) and is_ascending(value)


def are_props(pile, value):
    """Return whether value are props of a pile."""
    check_pile(pile)
    return are_props_of(pile, value)


def check_props(pile, value):
    """Raise InvalidProps if value are not props of what is a pile."""
    if not are_props_of(pile, value):
        raise InvalidProps("these are not props of the pile")


def stands_with(pile, props):
    """Return whether a pile stands with props."""
    check_pile(pile)
    check_props(pile, props)
    return propped_table(pile, props).is_solved()


def is_rest_with(pile, props, value):
    """Return whether value is a rest of a pile with props."""
    check_pile(pile)
    check_props(pile, props)
    found = contacts_of(pile)
    many = len(found)
    if not is_tuple(value, many + len(props)):
        return False
    if not all([is_share_pair(pair) for pair in value[:many]]) or not all([is_share(push) for push in value[many:]]):
        return False
    # A prop pushes as the ground would at a contact of a single place.
    ends = [(GROUND, number, place, place) for number, place in props]
    pushes = [(push, (0, 1)) for push in value[many:]]
    return is_balanced(pile, found + ends, list(value[:many]) + pushes)


def touches(prop, motion):
    """Tell whether a prop touches a motion."""
    number, place = prop
    return sinks_by(motion, number, place) > 0


def is_touched(motion, props):
    """Tell whether one of the props touches a motion."""
    return any([touches(prop, motion) for prop in props])


def is_motion_past(pile, props, value):
    """Tell whether value is a motion with what are props of a pile."""
    return is_motion_of(pile, value) and not is_touched(value, props)


def is_motion_with(pile, props, value):
    """Return whether value is a motion of a pile with props."""
    check_pile(pile)
    check_props(pile, props)
    return is_motion_past(pile, props, value)


def motion_with(pile, props):
    """Return a motion of a pile with props, or None if it stands with them."""
    table = propped_table(pile, props)
    if table.is_solved():
        return None
    return motion_of(pile, table)


def is_offer(pile, value):
    """Tell whether value is a prop of what is a pile with its price."""
    if not is_tuple(value, 2):
        return False
    prop, price = value
    return is_prop(pile, prop) and is_whole(price, 1, MOST_PRICE)


def are_offers_of(pile, value):
    """Tell whether value are offers of what is a pile."""
    if not isinstance(value, tuple) or len(value) > MOST_OFFERS:
        return False
    # Offers with different props are ascending if these are.
    return all([is_offer(pile, offer) for offer in value]) and is_ascending([prop for prop, _ in value])


def are_offers(pile, value):
    """Return whether value are offers of a pile."""
    check_pile(pile)
    return are_offers_of(pile, value)


def check_offers(pile, value):
    """Raise InvalidOffers if value are not offers of what is a pile."""
    if not are_offers_of(pile, value):
        raise InvalidOffers("these are not offers of the pile")


def are_bought(pile, offers, value):
    """Tell whether value are bought props of these offers."""
    offered = [prop for prop, _ in offers]
    return are_props_of(pile, value) and all([prop in offered for prop in value])


def price_sum(offers, bought):
    """Return the sum of the prices of bought props."""
    return sum([price for prop, price in offers if prop in bought])


def price_of(pile, offers, props):
    """Return the price of bought props."""
    check_pile(pile)
    check_offers(pile, offers)
    if not are_bought(pile, offers, props):
        raise InvalidProps("these are not bought props of the offers")
    return price_sum(offers, props)


def all_bought(offers):
    """Return all bought props of the offers."""
    found = [()]
    for prop, _ in offers:
        found = found + [bought + (prop,) for bought in found]
    return found


def cheapest_cures(pile, offers):
    """Return the ascending list of the cures with the least price."""
    cures = []
    motions = []
    for price, bought in sorted([(price_sum(offers, props), props) for props in all_bought(offers)]):
        if cures and price > price_sum(offers, cures[0]):
            break
        # A motion that none of the props touches tells at once that they are no cure.
        if not all([is_touched(known, bought) for known in motions]):
            continue
        motion = motion_with(pile, bought)
        if motion is None:
            cures.append(bought)
        else:
            motions.append(motion)
    return cures


def least_price(pile, offers):
    """Return the least price of a cure, or None if there is none."""
    check_pile(pile)
    check_offers(pile, offers)
    cures = cheapest_cures(pile, offers)
    if not cures:
        return None
    return price_sum(offers, cures[0])


def all_cheapest(pile, offers):
    """Return the ascending list of all cures with the least price."""
    check_pile(pile)
    check_offers(pile, offers)
    return cheapest_cures(pile, offers)


def sure_props(pile, offers):
    """Return the ascending list of the props that are in all cures with the least price."""
    check_pile(pile)
    check_offers(pile, offers)
    cures = cheapest_cures(pile, offers)
    if not cures:
        return []
    return [prop for prop in cures[0] if all([prop in cure for cure in cures])]
