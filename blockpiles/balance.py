"""The balance of all blocks of a pile as equations.

Each block has two of them, for the pushes and for twice the turns. Turns are
taken about the block's own middle: then no entry is beyond 8, whatever the
place of the block, the weights have no turn, and Hadamard's bound for
determinants (the rows of turns being divided by 8) keeps shares and motions,
with props too, below 10 ** 12, as they must be.
"""

from math import gcd

from blockpiles.errors import Tips
from blockpiles.kinds import reduced
from blockpiles.piles import GROUND, contacts_of, twice_middle
from blockpiles.simplex import Table


def share_column(pile, contact, place):
    """Return what a share of 1 at a place of a contact adds to the equations."""
    lower, upper = contact[:2]
    column = [0] * (2 * len(pile))
    column[2 * upper] = 1
    column[2 * upper + 1] = 2 * place - twice_middle(pile[upper])
    if lower != GROUND:
        column[2 * lower] = -1
        column[2 * lower + 1] = twice_middle(pile[lower]) - 2 * place
    return column


def share_columns(pile):
    """Return the columns of all shares, two for each contact."""
    columns = []
    for contact in contacts_of(pile):
        columns.append(share_column(pile, contact, contact[2]))
        columns.append(share_column(pile, contact, contact[3]))
    return columns


def push_column(pile, number, twice_place):
    """Return what a push of 1 under a block adds to the equations, given twice its place."""
    column = [0] * (2 * len(pile))
    column[2 * number] = 1
    column[2 * number + 1] = twice_place - twice_middle(pile[number])
    return column


def load_column(pile, number, twice_place):
    """Return what a weight of 1 more at a place of a block adds to the equations, given twice the place."""
    return [-entry for entry in push_column(pile, number, twice_place)]


def load_table(pile, number, twice_place):
    """Return the solved equations of a pile with a weight more, the last amount, or as near as they come."""
    return solved_equations(pile, share_columns(pile) + [load_column(pile, number, twice_place)], ())


def balance_table(pile, held=()):
    """Return the solved equations of the blocks that are not held, or as near as they come."""
    return solved_equations(pile, share_columns(pile), held)


def propped_table(pile, props):
    """Return the solved equations of a pile with props, whose pushes come last, or as near as they come."""
    columns = [push_column(pile, number, 2 * place) for number, place in props]
    return solved_equations(pile, share_columns(pile) + columns, ())


def solved_equations(pile, columns, held):
    """Return the table with these columns and the weights as totals, without the rows of held blocks."""
    totals = []
    for block in pile:
        totals.extend([block[4], 0])
    rows = [row for k in range(len(pile)) if k not in held for row in (2 * k, 2 * k + 1)]
    return Table([[column[row] for row in rows] for column in columns], [totals[row] for row in rows])


def standing_table(pile):
    """Return the solved equations of a pile; raise Tips if they can't be."""
    table = balance_table(pile)
    if not table.is_solved():
        raise Tips("the pile has no rest")
    return table


def prices_of(table, numbers):
    """Return the prices by which the amounts with these numbers are summed up."""
    return [1 if k in numbers else 0 for k in range(table.many)]


def least_sum(table, numbers):
    """Return the least sum of these amounts of a solved table, a fraction."""
    # There is always one, for no amount is below 0.
    top = table.least(prices_of(table, numbers))
    return reduced(top, table.scale)


def greatest_sum(table, numbers):
    """Return the greatest sum of these amounts of a solved table, a fraction, or None without bound."""
    top = table.least([-price for price in prices_of(table, numbers)])
    if top is None:
        return None
    return reduced(-top, table.scale)


def rest_of(table):
    """Return the rest that a solved table shows."""
    shares = [reduced(amount, table.scale) for amount in table.amounts()]
    return tuple([(shares[k], shares[k + 1]) for k in range(0, len(shares), 2)])


def motion_of(pile, table):
    """Return the motion that a table shows if it is not solved."""
    factors = table.refusal()
    common = 0
    for factor in factors:
        common = gcd(common, factor)
    motion = []
    for k, block in enumerate(pile):
        sink = factors[2 * k] // common
        tilt = factors[2 * k + 1] // common
        motion.append((sink - tilt * twice_middle(block), 2 * tilt))
    return tuple(motion)
