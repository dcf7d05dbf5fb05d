"""The search for winds that keep a log and in which one trip takes as little longer than another one as can be.

The prices are rows: one for each entry that has to take some time, one for each step of the other trip, and the
drift; each of them, and its negative, keeps below a bound for each step that must not take too long. So these rows
make a mirrored rose that holds the drift. The deals tell how times are spent on making steps.
"""

from pacerose.kinds import mirror_kind
from pacerose.logs import Book
from pacerose.middles import middle
from pacerose.moves import Moves
from pacerose.roses import Rose
from pacerose.rounds import homeward, with_one_more
from pacerose.simplex import begun, solved_from
from pacerose.stretches import gap, quotient
from pacerose.sums import greater
from pacerose.trips import gathered, many_times
from pacerose.vectors import compare, inner, lowest, times, zeros
from pacerose.winds import Wind, total_of


def at_block(block, step):
    return [(block + k, number) for k, number in enumerate(step) if number != 0]


def both_ways(step):
    return [step, times(-1, step)]


def gap_in(wind, one, other):
    """How much longer the first trip takes."""
    return gap(total_of(wind, one), total_of(wind, other))


def windy_middle(size, steps, weighted):
    """A wind by which each of the steps takes what the weighted winds make of it together, and drifts so, too."""
    scale, drift = 1, zeros(size)
    for (above, below), wind in weighted:
        wide = below * wind.scale
        drift = tuple([old * wide + above * number * scale for old, number in zip(drift, wind.row)])
        scale = scale * wide
    rose = middle(mirror_kind(size), steps, [(weight, wind.rose) for weight, wind in weighted])
    # By none of the steps the drift takes longer than the winds: but the rose has to hold it everywhere.
    return Wind(greater(rose, Rose(size, scale, both_ways(drift))), scale, drift)


class GustSearch:
    """For a right log and right trips; with no trips it is asked just for a wind that keeps the log."""

    def __init__(self, size, log, one, other):
        self.size = size
        self.book = Book(mirror_kind(size), log)
        self.one = one
        self.other = other
        self.gainers = self.book.told()
        self.bounded = [j for j, (_, _, high) in enumerate(self.book.entries) if high is not None]
        # What each of the rows is for; the drift comes last.
        self.made = [self.book.entries[j][0] for j in self.gainers] + [step for step, _ in other] + [None]
        self.limits = [self.book.entries[j][0] for j in self.bounded] + [step for step, _ in one]
        self.uses = [(image, k) for k, step in enumerate(self.limits) for image in both_ways(step)]
        self.columns, self.costs = [], []
        self.put_columns()
        self.found = solved_from(begun(self.columns, self.goal(), len(self.limits)), self.columns, self.costs)

    def put(self, column, cost):
        self.columns.append(column)
        self.costs.append(cost)

    def put_columns(self):
        size, below, drift = self.size, self.size * len(self.made), self.size * (len(self.made) - 1)
        for block in range(0, below, size):
            for image, k in self.uses:
                self.put(at_block(block, image) + [(below + k, 1)], 0)
        for k, j in enumerate(self.bounded):
            self.put(at_block(drift, self.limits[k]) + [(below + k, -1)], self.book.high(j))
        for b, j in enumerate(self.gainers):
            back = times(-1, self.made[b])
            self.put(at_block(size * b, back) + at_block(drift, back), -self.book.lows[j])
        for k in range(len(self.limits)):
            self.put([(below + k, 1)], 0)

    def goal(self):
        told = [0] * (self.size * len(self.gainers))
        for step, count in self.other:
            told.extend(times(count, step))
        told.extend(homeward(self.size, self.other, self.one))
        return tuple(told + [0] * len(self.bounded) + [count for _, count in self.one])

    def least(self):
        """The least time by which the one trip takes longer, None without bound; for a log that some wind keeps."""
        if self.found[0] == "none":
            return None
        scale, counts = self.found[1]
        return lowest(-inner(counts, self.costs), scale * self.book.unit)

    def priced_wind(self, scale, prices):
        rows = [prices[self.size * b:self.size * (b + 1)] for b in range(len(self.made))]
        return Wind(Rose(self.size, scale, [turned for row in rows for turned in both_ways(row)]), scale, rows[-1])

    def wind(self):
        """A wind that keeps the log, and in which the time is the least one; None if there is none."""
        if self.found[0] != "least":
            return None
        scale, prices = self.found[2]
        return self.priced_wind(scale * self.book.unit, prices)

    def told(self, scale, counts):
        """The gains, the costs and the windy shares that counts tell."""
        gains, costs, at = [0] * len(self.book.entries), [0] * len(self.book.entries), len(self.uses) * len(self.made)
        for j, number in zip(self.bounded, counts[at:]):
            costs[j] = number
        for j, number in zip(self.gainers, counts[at + len(self.bounded):]):
            gains[j] = number
        here = gathered(many_times(self.other, scale) + self.book.trip_of(gains))
        there = gathered(many_times(self.one, scale) + self.book.trip_of(costs))
        moves = Moves()
        for b, step in enumerate(self.made):
            made = homeward(self.size, here, there) if step is None else step
            for number, (image, k) in zip(counts[len(self.uses) * b:], self.uses):
                moves.put(made, image, self.limits[k], number)
        shares = moves.shares(self.book.kind, with_one_more(self.size, here, there), there)
        return tuple(gains), tuple(costs), shares

    def quarrel(self):
        return self.told(0, self.found[1]) if self.found[0] == "endless" else None

    def paper(self):
        if self.found[0] == "none":
            return None
        scale, counts = self.found[1]
        return (scale, *self.told(scale, counts))

    def steps(self):
        return [step for step, _, _ in self.book.entries] + [step for step, _ in self.one + self.other]

    def wind_below(self, keeper, ratio):
        """A wind that keeps the log and in which the time is at most the ratio; keeper is one that keeps it."""
        if self.found[0] == "least":
            return self.wind()
        apart = gap_in(keeper, self.one, self.other)
        if compare(apart, ratio) <= 0:
            return keeper
        # This takes nothing on the steps with a bound above: any number of times it may be put to a keeper.
        growth = self.priced_wind(1, self.found[1])
        weight = quotient(gap(apart, ratio), gap((0, 1), gap_in(growth, self.one, self.other)))
        return windy_middle(self.size, self.steps(), [((1, 1), keeper), (weight, growth)])


def wind_between(search, low, high, ratio):
    """A wind in which the time is just the ratio, of one in which it is not longer and one in which it is not less."""
    least, greatest = gap_in(low, search.one, search.other), gap_in(high, search.one, search.other)
    if least == ratio:
        return low
    weight = quotient(gap(ratio, least), gap(greatest, least))
    return windy_middle(search.size, search.steps(), [(gap((1, 1), weight), low), (weight, high)])
