"""Slow forms of the points, for comparison with the package.

Equations over amounts that are at least 0 are solved by Python's own fractions,
and inequalities by taking away one unknown after another (Fourier and Motzkin):
nothing of the package's simplex method is used here.
"""

from fractions import Fraction
from itertools import combinations, permutations, product

from tests.samples import changed, overlap


def places(block):
    """The unit stretches from left to right that a block takes up."""
    return set(range(block[0], block[0] + block[2]))


def slow_contacts(pile):
    """The contacts as [4] tells them, by unit stretches."""
    found = set()
    for upper, block in enumerate(pile):
        if block[1] == 0:
            found.add((-1, upper, min(places(block)), max(places(block)) + 1))
        for lower, other in enumerate(pile):
            common = places(block) & places(other)
            if other[1] + other[3] == block[1] and common:
                found.add((lower, upper, min(common), max(common) + 1))
    return sorted(found)


def slow_is_rest(pile, rest, props=()):
    """Whether shares are a rest, as [5] and [12] tell it, with Python's own fractions."""
    found = slow_contacts(pile)
    pushes = []
    for (lower, upper, start, end), shares in zip(found, rest):
        for place, share in zip((start, end), shares):
            pushes.append((lower, upper, place, Fraction(*share)))
    for (number, place), share in zip(props, rest[len(found):]):
        pushes.append((None, number, place, Fraction(*share)))
    for number, (left, _, width, _, weight) in enumerate(pile):
        push = Fraction(weight)
        turn = weight * (left + Fraction(width, 2))
        for lower, upper, place, share in pushes:
            sign = (lower == number) - (upper == number)
            push += sign * share
            turn += sign * place * share
        if push != 0 or turn != 0:
            return False
    return len(rest) == len(found) + len(props) and all(share >= 0 for _, _, _, share in pushes)


def slow_is_motion(pile, motion, props=()):
    """Whether pairs of integers are a motion, as [6] and [12] tell it."""
    lines = {number: pair for number, pair in enumerate(motion)}
    lines[-1] = (0, 0)
    for lower, upper, start, end in slow_contacts(pile):
        for place in (start, end):
            if lines[upper][0] + lines[upper][1] * place > lines[lower][0] + lines[lower][1] * place:
                return False
    if any(lines[number][0] + lines[number][1] * place > 0 for number, place in props):
        return False
    total = Fraction(0)
    for (a, b), (left, _, width, _, weight) in zip(motion, pile):
        total += weight * (a + b * (left + Fraction(width, 2)))
    return total > 0


def equations(pile, weights, loads=(), held=(), props=()):
    """The balance of [5] and [12] as rows: a factor for each share, load and prop, and the total.

    A load is a weight more that is unknown, at a place of a block.
    """
    found = slow_contacts(pile)
    rows = []
    for number, (left, _, width, _, _) in enumerate(pile):
        if number in held:
            continue
        push, turn = [], []
        for lower, upper, start, end in found:
            sign = (upper == number) - (lower == number)
            push += [sign, sign]
            turn += [sign * start, sign * end]
        for block, place in loads:
            push.append(-(block == number))
            turn.append(-(block == number) * place)
        for block, place in props:
            push.append(int(block == number))
            turn.append((block == number) * place)
        rows.append(push + [weights[number]])
        rows.append(turn + [weights[number] * (left + Fraction(width, 2))])
    return rows


def eliminated(rows, many):
    """The rows with each of the first unknowns left in one row at most, and which row this is."""
    rows = [[Fraction(entry) for entry in row] for row in rows]
    chosen = {}
    for at in range(many):
        k = next((k for k, row in enumerate(rows) if row[at] != 0 and k not in chosen.values()), None)
        if k is None:
            continue
        chosen[at] = k
        rows[k] = [entry / rows[k][at] for entry in rows[k]]
        for j, row in enumerate(rows):
            if j != k and row[at] != 0:
                rows[j] = [entry - row[at] * other for entry, other in zip(row, rows[k])]
    return rows, chosen


def inequalities(rows, many):
    """What tells that the first unknowns are at least 0, by the free ones, the last unknown and a constant."""
    rows, chosen = eliminated(rows, many)
    free = [at for at in range(many) if at not in chosen]
    found = []
    for at in range(many):
        if at in chosen:
            row = rows[chosen[at]]
            found.append([-row[k] for k in free] + [-row[many], row[many + 1]])
        else:
            found.append([int(at == k) for k in free] + [0, 0])
    for k, row in enumerate(rows):
        if k not in chosen.values():
            found.append([0] * len(free) + [row[many], -row[many + 1]])
            found.append([0] * len(free) + [-row[many], row[many + 1]])
    return found, len(free)


def without_unknown(found, at, most):
    """The inequalities, each with those that it comes from, without this unknown.

    One that comes from more than so many others tells nothing that these don't tell.
    """
    kept = [(row, source) for row, source in found if row[at] == 0]
    for row, source in found:
        for other, more in found:
            if row[at] > 0 > other[at] and len(source | more) <= most:
                both = [row[at] * y - other[at] * x for x, y in zip(row, other)]
                kept.append((both, source | more))
    return kept


def extent(rows, prices):
    """The least and the greatest sum of the prices times amounts that solve the rows, or None.

    The greatest one is None if there is no bound.
    """
    many = len(prices)
    rows = [row[:-1] + [0, row[-1]] for row in rows] + [list(prices) + [-1, 0]]
    found, free = inequalities(rows, many)
    found = [(row, frozenset([k])) for k, row in enumerate(found)]
    for at in range(free):
        found = without_unknown(found, at, at + 2)
    lows = [-row[-1] / row[-2] for row, _ in found if row[-2] > 0]
    highs = [-row[-1] / row[-2] for row, _ in found if row[-2] < 0]
    if any(row[-2] == 0 and row[-1] < 0 for row, _ in found) or (highs and max(lows) > min(highs)):
        return None
    return max(lows), min(highs, default=None)


def weights_of(pile):
    """The weights of the blocks."""
    return [block[4] for block in pile]


def slow_stands(pile, weights, held=(), props=()):
    """Whether the pile stands with these weights, with these blocks held and with props ([5], [8], [9] and [12])."""
    rows = equations(pile, weights, (), held, props)
    return extent(rows, [0] * (2 * len(slow_contacts(pile)) + len(props))) is not None


def slow_pushes(pile, contact):
    """The least and the greatest push of a contact, or None if the pile tips ([7])."""
    prices = [int(k // 2 == contact) for k in range(2 * len(slow_contacts(pile)))]
    return extent(equations(pile, weights_of(pile)), prices)


def slow_loads(pile, weights, block, place):
    """The least and the greatest weight more at this place with which the pile stands, or None."""
    prices = [0] * (2 * len(slow_contacts(pile))) + [1]
    return extent(equations(pile, weights, [(block, place)]), prices)


def slow_span(pile, block):
    """The least and the greatest weight of the block with which the pile stands, or None ([8])."""
    weights = weights_of(pile)
    weights[block] = 0
    return slow_loads(pile, weights, block, pile[block][0] + Fraction(pile[block][2], 2))


def slow_fewest(pile):
    """The least number of blocks such that the pile stands with some so many held ([9])."""
    weights = weights_of(pile)
    for many in range(len(pile) + 1):
        if any(slow_stands(pile, weights, held) for held in combinations(range(len(pile)), many)):
            return many
    return None


def slow_hands(pile):
    """For each order of the pile the fewest hands with which it builds ([9])."""
    needs = {}
    for many in range(len(pile) + 1):
        for numbers in combinations(range(len(pile)), many):
            needs[frozenset(numbers)] = slow_fewest(tuple(pile[k] for k in numbers))
    found = {}
    for order in permutations(range(len(pile))):
        found[order] = max(needs[frozenset(order[:many])] for many in range(len(pile) + 1))
    return found


def slow_farthest(pile, block, side):
    """How many steps, up to 40, a block of a pile that stands can be pushed ([10])."""
    for steps in range(1, 41):
        moved = (pile[block][0] + side * steps,) + pile[block][1:]
        blocks = changed(pile, block, moved)
        meets = any(overlap(moved, other) for k, other in enumerate(pile) if k != block)
        if meets or not slow_stands(blocks, weights_of(blocks)):
            return steps - 1
    return 40


def middle_of(blocks, lefts):
    """The middle of weight of blocks of a tower ([11])."""
    turns = sum(weight * (left + Fraction(width, 2)) for (width, weight), left in zip(blocks, lefts))
    return turns / sum(weight for _, weight in blocks)


def slow_is_tower(blocks, lefts):
    """Whether blocks with these lefts are a tower that stands, as [11] tells it."""
    lefts = [Fraction(*left) for left in lefts]
    if middle_of(blocks, lefts) > 0:
        return False
    middles = [middle_of(blocks[k:], lefts[k:]) for k in range(1, len(blocks))]
    return all(left <= middle <= left + width for (width, _), left, middle in zip(blocks, lefts, middles))


def leaning_tower(blocks, leans):
    """The lefts of a tower whose middle of weight is at the edge.

    For each block but the highest one a lean tells where on it, from its left to
    its right (0 to 1), the middle of weight of those above it is.
    """
    lefts = [Fraction(0)]
    for k in range(len(blocks) - 2, -1, -1):
        # The block's left, those above it being where they are.
        lefts.insert(0, middle_of(blocks[k + 1:], lefts) - leans[k] * blocks[k][0])
    middle = middle_of(blocks, lefts)
    return [left - middle for left in lefts]


def rights_of(blocks, lefts):
    """The rights of the blocks of a tower."""
    return [left + width for (width, _), left in zip(blocks, lefts)]


def slow_reach(blocks):
    """The greatest reach of all towers in which each lean is as far to a side as it may be ([11])."""
    towers = [leaning_tower(blocks, leans) for leans in product((0, 1), repeat=len(blocks) - 1)]
    return max(right for lefts in towers for right in rights_of(blocks, lefts))


def slow_touches(prop, motion):
    """Whether the block of the prop sinks by more than 0 at its place ([12])."""
    number, place = prop
    return motion[number][0] + motion[number][1] * place > 0


def slow_is_paper(pile, offers, price, paper):
    """Whether a list of bought props and reasons, all of the right kinds, is a paper, as [14] tells it."""
    prices = dict(offers)
    listed = [bought for bought, _ in paper]
    if listed != sorted(set(listed)) or () not in listed:
        return False
    for bought, reason in paper:
        if list(bought) != sorted(set(bought)) or not set(bought) <= set(prices):
            return False
        if reason == ("dear",):
            if sum(prices[prop] for prop in bought) < price:
                return False
            continue
        if not slow_is_motion(pile, reason[1], bought):
            return False
        touching = [prop for prop in prices if prop not in bought and slow_touches(prop, reason[1])]
        if any(tuple(sorted(bought + (prop,))) not in listed for prop in touching):
            return False
    return True
