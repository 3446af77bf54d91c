"""Slow forms of the points, for comparison with the package.

Equations over amounts that are at least 0 are solved by Python's own fractions,
and inequalities by taking away one unknown after another (Fourier and Motzkin):
nothing of the package's simplex method is used here.
"""

from fractions import Fraction
from itertools import combinations, permutations

from blockpiles.piles import contacts


def equations(pile, weights, loads=(), held=()):
    """The balance of [5] as rows: a factor for each share and each load, and the total.

    A load is a weight more that is unknown, at a place of a block.
    """
    found = contacts(pile)
    rows = []
    for number, (left, _, width, _, _) in enumerate(pile):
        if number in held:
            continue
        push, turn = [], []
        for lower, upper, start, end in found:
            sign = (upper == number) - (lower == number)
            push += [sign, sign]
            turn += [sign * start, sign * end]
        for block, place in loads:
            push.append(-(block == number))
            turn.append(-(block == number) * place)
        rows.append(push + [weights[number]])
        rows.append(turn + [weights[number] * (left + Fraction(width, 2))])
    return rows


def eliminated(rows, many):
    """The rows with each of the first unknowns left in one row at most, and which row this is."""
    rows = [[Fraction(entry) for entry in row] for row in rows]
    chosen = {}
    for at in range(many):
        k = next((k for k, row in enumerate(rows) if row[at] != 0 and k not in chosen.values()), None)
        if k is None:
            continue
        chosen[at] = k
        rows[k] = [entry / rows[k][at] for entry in rows[k]]
        for j, row in enumerate(rows):
            if j != k and row[at] != 0:
                rows[j] = [entry - row[at] * other for entry, other in zip(row, rows[k])]
    return rows, chosen


def inequalities(rows, many):
    """What tells that the first unknowns are at least 0, by the free ones, the last unknown and a constant."""
    rows, chosen = eliminated(rows, many)
    free = [at for at in range(many) if at not in chosen]
    found = []
    for at in range(many):
        if at in chosen:
            row = rows[chosen[at]]
            found.append([-row[k] for k in free] + [-row[many], row[many + 1]])
        else:
            found.append([int(at == k) for k in free] + [0, 0])
    for k, row in enumerate(rows):
        if k not in chosen.values():
            found.append([0] * len(free) + [row[many], -row[many + 1]])
            found.append([0] * len(free) + [-row[many], row[many + 1]])
    return found, len(free)


def without_unknown(found, at, most):
    """The inequalities, each with those that it comes from, without this unknown.

    One that comes from more than so many others tells nothing that these don't tell.
    """
    kept = [(row, source) for row, source in found if row[at] == 0]
    for row, source in found:
        for other, more in found:
            if row[at] > 0 > other[at] and len(source | more) <= most:
                both = [row[at] * y - other[at] * x for x, y in zip(row, other)]
                kept.append((both, source | more))
    return kept


def extent(rows, prices):
    """The least and the greatest sum of the prices times amounts that solve the rows, or None.

    The greatest one is None if there is no bound.
    """
    many = len(prices)
    rows = [row[:-1] + [0, row[-1]] for row in rows] + [list(prices) + [-1, 0]]
    found, free = inequalities(rows, many)
    found = [(row, frozenset([k])) for k, row in enumerate(found)]
    for at in range(free):
        found = without_unknown(found, at, at + 2)
    lows = [-row[-1] / row[-2] for row, _ in found if row[-2] > 0]
    highs = [-row[-1] / row[-2] for row, _ in found if row[-2] < 0]
    if any(row[-2] == 0 and row[-1] < 0 for row, _ in found) or (highs and max(lows) > min(highs)):
        return None
    return max(lows), min(highs, default=None)


def weights_of(pile):
    """The weights of the blocks."""
    return [block[4] for block in pile]


def slow_stands(pile, weights, held=()):
    """Whether the pile stands with these weights and these blocks held ([5], [8] and [9])."""
    return extent(equations(pile, weights, (), held), [0] * (2 * len(contacts(pile)))) is not None


def slow_pushes(pile, contact):
    """The least and the greatest push of a contact, or None if the pile tips ([7])."""
    prices = [int(k // 2 == contact) for k in range(2 * len(contacts(pile)))]
    return extent(equations(pile, weights_of(pile)), prices)


def slow_loads(pile, weights, block, place):
    """The least and the greatest weight more at this place with which the pile stands, or None."""
    prices = [0] * (2 * len(contacts(pile))) + [1]
    return extent(equations(pile, weights, [(block, place)]), prices)


def slow_span(pile, block):
    """The least and the greatest weight of the block with which the pile stands, or None ([8])."""
    weights = weights_of(pile)
    weights[block] = 0
    return slow_loads(pile, weights, block, pile[block][0] + Fraction(pile[block][2], 2))


def slow_fewest(pile):
    """The least number of blocks such that the pile stands with some so many held ([9])."""
    weights = weights_of(pile)
    for many in range(len(pile) + 1):
        if any(slow_stands(pile, weights, held) for held in combinations(range(len(pile)), many)):
            return many
    return None


def slow_hands(pile):
    """For each order of the pile the fewest hands with which it builds ([9])."""
    needs = {}
    for many in range(len(pile) + 1):
        for numbers in combinations(range(len(pile)), many):
            needs[frozenset(numbers)] = slow_fewest(tuple(pile[k] for k in numbers))
    found = {}
    for order in permutations(range(len(pile))):
        found[order] = max(needs[frozenset(order[:many])] for many in range(len(pile) + 1))
    return found
