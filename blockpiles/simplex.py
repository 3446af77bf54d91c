"""Equations over amounts that are at least 0, solved exactly, and least sums of them.

This is the simplex method over whole numbers. The column that enters and the
row that leaves are each the first of those that may: with any other choice
the method might go around in a circle.
"""


def first_rows(columns, totals):
    """Return the rows of the equations, each with a lack of its own and its total behind."""
    rows = []
    for k, total in enumerate(totals):
        lacks = [0] * len(totals)
        lacks[k] = 1
        rows.append([column[k] for column in columns] + lacks + [total])
    return rows


def first_costs(columns, totals):
    """Return what each amount adds to the sum of all lacks, which is to become 0."""
    return [-sum(column) for column in columns] + [0] * len(totals) + [-sum(totals)]


def cleared(row, chosen, at, scale):
    """Return the row without the amount at this column, by means of the chosen row."""
    pivot = chosen[at]
    factor = row[at]
    # The quotient is whole: every entry is a minor of the first equations, or the opposite of one.
    return [(entry * pivot - factor * other) // scale for entry, other in zip(row, chosen)]


class Table:
    """Equations whose lacks are made as small as possible.

    The totals are at least 0. Each entry of the rows and of the costs stands
    for itself divided by the scale, which is greater than 0.
    """

    def __init__(self, columns, totals):
        self.many = len(columns)
        self.scale = 1
        self.rows = first_rows(columns, totals)
        self.costs = first_costs(columns, totals)
        self.basis = [self.many + k for k in range(len(totals))]
        self.settle()

    def settle(self):
        """Let columns enter until none makes the costs smaller, and tell whether it came to this."""
        at = self.entering()
        while at is not None:
            k = self.leaving(at)
            if k is None:
                return False
            self.enter(at, k)
            at = self.entering()
        return True

    def entering(self):
        """Return the first column that makes the costs smaller, or None."""
        for at in range(self.many):
            if self.costs[at] < 0:
                return at
        return None

    def leaving(self, at):
        """Return the row that keeps all amounts at least 0 when this column enters, or None without bound."""
        best = None
        for k, row in enumerate(self.rows):
            if row[at] > 0 and (best is None or self.leaves_before(k, best, at)):
                best = k
        return best

    def leaves_before(self, k, best, at):
        """Tell whether row k is to leave rather than the best one up to now."""
        here = self.rows[k][-1] * self.rows[best][at]
        there = self.rows[best][-1] * self.rows[k][at]
        return here < there or (here == there and self.basis[k] < self.basis[best])

    def enter(self, at, k):
        """Solve row k for this column, and clear the column from all others."""
        chosen = self.rows[k]
        rows = [cleared(row, chosen, at, self.scale) for row in self.rows]
        rows[k] = chosen
        self.rows = rows
        self.costs = cleared(self.costs, chosen, at, self.scale)
        self.basis[k] = at
        self.scale = chosen[at]

    def is_solved(self):
        """Tell whether the equations hold without any lack."""
        return all([row[-1] == 0 for row, at in zip(self.rows, self.basis) if at >= self.many])

    def amounts(self):
        """Return the amounts of the columns, each times the scale."""
        found = [0] * self.many
        for k, at in enumerate(self.basis):
            if at < self.many:
                found[at] = self.rows[k][-1]
        return found

    def refusal(self):
        """Return a factor for each equation, if they are not solved.

        By these the equations add up to one with no column above 0, and a
        total above 0: no amounts that are at least 0 solve it.
        """
        return [self.scale - cost for cost in self.costs[self.many:-1]]

    def least(self, prices):
        """Return the least sum of the prices times the amounts, times the scale, or None without bound.

        The equations are solved, and stay so.
        """
        self.drop_lacks()
        self.costs = self.costs_of(prices)
        if not self.settle():
            return None
        return -self.costs[-1]

    def drop_lacks(self):
        """Let a column enter for each lack, which is 0; only in rows without any column a lack stays."""
        for k in range(len(self.rows)):
            if self.basis[k] >= self.many:
                self.drop_lack(k)

    def drop_lack(self, k):
        """Let the first column that row k has enter for its lack, if it has one."""
        row = self.rows[k]
        filled = [at for at in range(self.many) if row[at] != 0]
        if not filled:
            return
        if row[filled[0]] < 0:
            # The total of the row is 0, so no amount gets below 0 when all signs are turned.
            self.rows[k] = [-entry for entry in row]
        self.enter(filled[0], k)

    def costs_of(self, prices):
        """Return what each amount adds to the sum by these prices when those of the basis make room for it."""
        costs = [self.scale * price for price in prices] + [0] * (len(self.rows) + 1)
        for row, at in zip(self.rows, self.basis):
            if at < self.many:
                costs = [cost - prices[at] * entry for cost, entry in zip(costs, row)]
        return costs
