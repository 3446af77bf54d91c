"""The least and the greatest push of a contact, and the greatest weight more."""

from blockpiles.balance import greatest_sum, least_sum, load_table, standing_table
from blockpiles.errors import InvalidContact, InvalidPlace
from blockpiles.kinds import is_whole
from blockpiles.piles import check_number, check_pile, contacts_of, right_of


def checked_table(pile, contact):
    """Return the solved equations of a pile if this is the number of a contact."""
    check_pile(pile)
    if not is_whole(contact, 0, len(contacts_of(pile)) - 1):
        raise InvalidContact("this is not the number of a contact")
    return standing_table(pile)


def shares_of(contact):
    """Return the numbers of the two shares of a contact among all shares."""
    return (2 * contact, 2 * contact + 1)


def least_push(pile, contact):
    """Return the least push of a contact in all rests of a pile."""
    return least_sum(checked_table(pile, contact), shares_of(contact))


def greatest_push(pile, contact):
    """Return the greatest push of a contact in all rests of a pile."""
    return greatest_sum(checked_table(pile, contact), shares_of(contact))


def check_place(block, value):
    """Raise InvalidPlace if value is not an integer from the left of a block to its right."""
    if not is_whole(value, block[0], right_of(block)):
        raise InvalidPlace("this is not a place of the block")


def greatest_more(pile, block, place):
    """Return the greatest weight more with which a pile stands, or None if it stands with each."""
    check_pile(pile)
    check_number(pile, block)
    check_place(pile[block], place)
    # A pile that tips may stand with a weight more, so that the table below does not tell.
    standing_table(pile)
    table = load_table(pile, block, 2 * place)
    return greatest_sum(table, (table.many - 1,))
