"""Deals of least cost by exact pivots on whole numbers; nothing is checked here.

A column is given sparsely: a list of pairs (index of a line, number). A basis holds the inverse of its columns
times one scale, so that all numbers stay whole and each division below comes out even. It begins with a
stand-in for each line of the goal; a deal is found when no stand-in is needed any more.
"""

from pacerose.vectors import reduced, scaled_down


class Basis:
    """Its members, the indexes of columns, with their levels times the scale; None is a stand-in."""

    def __init__(self, goal):
        many = len(goal)
        self.scale = 1
        self.levels = [abs(number) for number in goal]
        self.members = [None] * many
        self.inverse = [[0] * many for _ in range(many)]
        for k in range(many):
            self.inverse[k][k] = -1 if goal[k] < 0 else 1

    def lifted(self, column):
        """How much of each member the column stands for, times the scale."""
        return [sum([line[k] * number for k, number in column]) for line in self.inverse]

    def priced(self, weights):
        """The prices that come of a weight for each member, times the scale."""
        prices = [0] * len(self.levels)
        for weight, line in zip(weights, self.inverse):
            if weight != 0:
                prices = [price + weight * number for price, number in zip(prices, line)]
        return prices

    def stand_in_prices(self):
        return self.priced([1 if member is None else 0 for member in self.members])

    def lack(self):
        """What stand-ins still have to make up for."""
        return sum([level for member, level in zip(self.members, self.levels) if member is None])

    def pivot(self, out, lift, member):
        """The member takes the place of the one at the index out."""
        lead, old = lift[out], self.scale
        line, level = self.inverse[out], self.levels[out]
        for k, factor in enumerate(lift):
            if k == out or (factor == 0 and lead == old):
                continue
            self.levels[k] = (lead * self.levels[k] - factor * level) // old
            # Most lines need no more than the new scale: this is what takes the time.
            if factor == 0:
                self.inverse[k] = [lead * here // old for here in self.inverse[k]]
            else:
                self.inverse[k] = [(lead * here - factor * there) // old for here, there in zip(self.inverse[k], line)]
        self.members[out] = member
        self.scale = lead


def sparse(column):
    return [(k, number) for k, number in enumerate(column) if number != 0]


def price_of(prices, column):
    return sum([prices[k] * number for k, number in column])


def prices_of(prices, columns):
    return [sum([prices[k] * number for k, number in column]) for column in columns]


def goes_first(basis, lift, one, other):
    """Whether line one, divided by its lift, is less than line other: so no basis comes twice."""
    here, there = basis.levels[one] * lift[other], basis.levels[other] * lift[one]
    if here != there:
        return here < there
    for left, right in zip(basis.inverse[one], basis.inverse[other]):
        here, there = left * lift[other], right * lift[one]
        if here != there:
            return here < there
    return False


def leaving(basis, lift):
    """The index of the member that has to leave; None if none does."""
    best = None
    for k, number in enumerate(lift):
        if number > 0 and (best is None or goes_first(basis, lift, k, best)):
            best = k
    return best


def gather(basis, columns, whole):
    """Put columns in the place of stand-ins as long as that helps, or, if not whole, until none is needed."""
    while whole or basis.lack() > 0:
        prices = basis.stand_in_prices()
        worths = prices_of(prices, columns)
        best = max(worths, default=0)
        if best <= 0:
            return
        entering = worths.index(best)
        lift = basis.lifted(columns[entering])
        basis.pivot(leaving(basis, lift), lift, entering)


def cost_prices(basis, costs):
    return basis.priced([0 if member is None else costs[member] for member in basis.members])


def lessen(basis, columns, costs):
    """Lower the cost as long as that goes; the counts of an endless lowering, otherwise None."""
    tolls = basis.stand_in_prices()
    # Stand-ins stay at 0 only if no column enters that has a toll.
    free = [k for k, toll in enumerate(prices_of(tolls, columns)) if toll == 0]
    while len(free) > 0:
        prices = cost_prices(basis, costs)
        gains = [price_of(prices, columns[k]) - basis.scale * costs[k] for k in free]
        best = max(gains)
        if best <= 0:
            return None
        entering = free[gains.index(best)]
        lift = basis.lifted(columns[entering])
        out = leaving(basis, lift)
        if out is None:
            return endless_counts(basis, len(columns), entering, lift)
        basis.pivot(out, lift, entering)
    return None


def endless_counts(basis, many, entering, lift):
    counts = [0] * many
    counts[entering] = basis.scale
    for member, number in zip(basis.members, lift):
        if member is not None:
            counts[member] = -number
    return reduced(counts)


def told_deal(basis, many):
    counts = [0] * many
    for member, level in zip(basis.members, basis.levels):
        if member is not None:
            counts[member] = level
    return scaled_down(basis.scale, counts)


def told_prices(basis, columns, costs):
    """Prices for all columns: those with a toll are kept from paying by as much of the tolls as it takes."""
    tolls, prices = basis.stand_in_prices(), cost_prices(basis, costs)
    most = 0
    for column, cost in zip(columns, costs):
        toll = -price_of(tolls, column)
        if toll > 0:
            over = price_of(prices, column) - basis.scale * cost
            most = max(most, -(-over // toll))
    return scaled_down(basis.scale, [price + most * toll for price, toll in zip(prices, tolls)])


def begun(columns, goal, spare):
    """A basis in which the last columns, so many, stand for themselves from the outset.

    Each of these is 1 in a line of its own and 0 elsewhere; the goal is not below 0 in these lines.
    """
    basis = Basis(goal)
    for at in range(len(columns) - spare, len(columns)):
        basis.members[columns[at][0][0]] = at
    return basis


def deal_or_dam_from(basis, columns):
    """The pair of a deal and None, or of None and a dam."""
    gather(basis, columns, False)
    if basis.lack() > 0:
        return None, reduced(basis.stand_in_prices())
    return told_deal(basis, len(columns)), None


def solved_from(basis, columns, costs):
    """("none", dam), ("endless", counts) or ("least", deal, prices)."""
    gather(basis, columns, True)
    if basis.lack() > 0:
        return "none", reduced(basis.stand_in_prices())
    counts = lessen(basis, columns, costs)
    if counts is not None:
        return "endless", counts
    return "least", told_deal(basis, len(columns)), told_prices(basis, columns, costs)


def deal_or_dam(columns, goal):
    return deal_or_dam_from(Basis(goal), columns)


def solved(columns, costs, goal):
    return solved_from(Basis(goal), columns, costs)
