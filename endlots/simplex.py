"""The cheapest mixture of columns that makes a goal, exactly and over integers alone.

A column is a list of tuples (row, integer), its entries other than 0. A mixture has an amount from 0 on for each
column; what it makes in a row is the sum of the amounts times the entries there. No cost is below 0.
"""

from endlots.lots import product_sum


class Mixture:
    """A mixture by as many columns as there are rows, and the inverse of these columns.

    All amounts and all entries of the inverse are integers over the one scale; the scale is the determinant of the
    columns, so that each division below leaves no rest.
    """

    def __init__(self, columns, costs, goal, start):
        self.columns = columns
        self.costs = costs
        self.taken = list(start)
        self.amounts = list(goal)
        self.inverse = [[int(at == row) for at in range(len(goal))] for row in range(len(goal))]
        self.scale = 1

    def cost(self):
        """The cost of the mixture, times the scale."""
        return sum([self.costs[column] * amount for column, amount in zip(self.taken, self.amounts)])

    def worths(self):
        """The prices of a cheapest mixture; where it costs nothing, the prices 0 show that nothing is cheaper."""
        if self.cost() > 0:
            return self.prices()
        return [0 for _ in self.taken]

    def amounts_for(self, goal):
        """The amounts, times the scale, by which the taken columns make another goal at no cost, or None."""
        found = []
        for column, line in zip(self.taken, self.inverse):
            amount = product_sum(line, goal)
            if amount < 0 or (amount > 0 and self.costs[column] > 0):
                return None
            found.append(amount)
        return found

    def prices(self):
        """What one more of the goal costs in each row, times the scale."""
        found = [0 for _ in self.taken]
        for column, line in zip(self.taken, self.inverse):
            cost = self.costs[column]
            if cost != 0:
                found = [price + cost * entry for price, entry in zip(found, line)]
        return found

    def entering(self, first):
        """A column that makes the mixture cheaper, the first one or the one that does most, or None."""
        prices = self.prices()
        chosen = None
        most = 0
        for at, column in enumerate(self.columns):
            gain = sum([prices[row] * entry for row, entry in column]) - self.costs[at] * self.scale
            if gain > most:
                chosen = at
                most = gain
                if first:
                    break
        return chosen

    def replaced_by(self, entering):
        """What one of a column replaces of each taken one, times the scale."""
        column = self.columns[entering]
        return [sum([line[row] * entry for row, entry in column]) for line in self.inverse]

    def leaving(self, parts):
        """The place of the taken column that is used up first; of equal ones that of the least column."""
        chosen = None
        for at, part in enumerate(parts):
            if part <= 0:
                continue
            if chosen is None:
                chosen = at
                continue
            here = self.amounts[at] * parts[chosen]
            there = self.amounts[chosen] * part
            if here < there or (here == there and self.taken[at] < self.taken[chosen]):
                chosen = at
        return chosen

    def exchange(self, entering, parts, leaving):
        """Take a column in the place of the one at the place that leaves."""
        pivot = parts[leaving]
        kept = self.inverse[leaving]
        amount = self.amounts[leaving]
        for at, part in enumerate(parts):
            if at != leaving:
                line = self.inverse[at]
                self.inverse[at] = [(old * pivot - part * new) // self.scale for old, new in zip(line, kept)]
                self.amounts[at] = (self.amounts[at] * pivot - part * amount) // self.scale
        self.taken[leaving] = entering
        self.scale = pivot


def cheapest(columns, costs, goal, start):
    """A tuple (amounts, prices, scale) of a cheapest mixture that makes the goal, whose integers are from 0 on.

    The start names for each row a column that is 1 there and 0 in all other rows. The amounts are one for each column,
    the prices one for each row, all times the scale. By these prices no column is worth more than it costs, and the
    goal is worth just what the mixture costs.
    """
    mixture = cheapest_mixture(columns, costs, goal, start)
    amounts = [0 for _ in columns]
    for column, amount in zip(mixture.taken, mixture.amounts):
        amounts[column] = amount
    return (amounts, mixture.worths(), mixture.scale)


def cheapest_mixture(columns, costs, goal, start):
    """The cheapest mixture itself, for the same arguments."""
    mixture = Mixture(columns, costs, goal, start)
    first = False
    # Nothing is cheaper than 0.
    while mixture.cost() > 0:
        entering = mixture.entering(first)
        if entering is None:
            break
        parts = mixture.replaced_by(entering)
        leaving = mixture.leaving(parts)
        # Where nothing gets cheaper, taking the first column each time never comes round to the same columns again.
        first = mixture.amounts[leaving] == 0
        mixture.exchange(entering, parts, leaving)
    return mixture
