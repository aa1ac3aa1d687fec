"""The one search that all papers come from: weights of a combination, or a vector that parts."""

from hullwright.vectors import primitive


def weighing(vectors, target):
    """Return ("yes", weights, t) or ("no", other) for a list of vectors and a target.

    With yes, t >= 1 times the target is the sum of the vectors times the weights.
    With no, the products of the other vector with all vectors are at least 0,
    and its product with the target is less than 0. The list may have no items.
    """
    table = Table(vectors, target)
    column = table.entering()
    while column is not None:
        table.exchange(table.leaving(column), column)
        column = table.entering()
    if table.costs[-1] == 0:
        found = primitive(table.weights() + (table.divisor,))
        return ("yes", found[:-1], found[-1])
    return ("no", primitive(table.parting()))


class Table:
    """The simplex method in integers, for the equations: vectors times weights = target.

    The columns are a helper for each equation, the vectors, and the right side.
    The basis tells for each row the column whose weight the row gives; all
    entries are to be divided by the divisor. The costs are those of the sum of
    the helpers, which is to become 0.
    """

    def __init__(self, vectors, target):
        self.size = len(target)
        self.many = len(vectors)
        self.signs = [-1 if entry < 0 else 1 for entry in target]
        self.rows = [self.first_row(vectors, target, k) for k in range(self.size)]
        sums = [-sum([row[k] for row in self.rows]) for k in range(self.size, self.size + self.many + 1)]
        self.costs = [0] * self.size + sums
        self.basis = list(range(self.size))
        self.divisor = 1

    def first_row(self, vectors, target, at):
        """Return the equation with this number, its right side made positive or 0."""
        turn = self.signs[at]
        helpers = [1 if k == at else 0 for k in range(self.size)]
        return helpers + [turn * vector[at] for vector in vectors] + [turn * target[at]]

    def entering(self):
        """Return the first column of a vector that lowers the costs, or None."""
        # Always the first one, here and among the leaving ones: otherwise the method could go in circles.
        for column in range(self.size, self.size + self.many):
            if self.costs[column] < 0:
                return column
        return None

    def leaving(self, column):
        """Return the row that gives the least bound for the weight of a column."""
        best = None
        for k in range(self.size):
            if self.rows[k][column] > 0 and (best is None or self.comes_first(k, best, column)):
                best = k
        return best

    def comes_first(self, at, best, column):
        """Tell whether the bound of a row is less than that of the best one so far."""
        bound = self.rows[at][-1] * self.rows[best][column]
        least = self.rows[best][-1] * self.rows[at][column]
        return bound < least or (bound == least and self.basis[at] < self.basis[best])

    def exchange(self, at, column):
        """Let a column take the place of that of a row in the basis."""
        lead = self.rows[at]
        self.rows = [row if k == at else self.cleared(row, lead, column) for k, row in enumerate(self.rows)]
        self.costs = self.cleared(self.costs, lead, column)
        self.basis[at] = column
        self.divisor = lead[column]

    def cleared(self, row, lead, column):
        """Return a row whose entry in a column has become 0."""
        # All entries are determinants of parts of the first table, so the division leaves no rest.
        factor = row[column]
        return [(lead[column] * a - factor * b) // self.divisor for a, b in zip(row, lead)]

    def weights(self):
        """Return the weights of the vectors, times the divisor."""
        found = [0] * self.many
        for k, column in enumerate(self.basis):
            if column >= self.size:
                found[column - self.size] = self.rows[k][-1]
        return tuple(found)

    def parting(self):
        """Return the vector that parts the target from the vectors, if the costs are not 0."""
        return tuple([turn * (cost - self.divisor) for turn, cost in zip(self.signs, self.costs)])
