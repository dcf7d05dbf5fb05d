"""The search for the least time of a trip in a log.

A row for each entry that has to take some time keeps below all bounds; none of them makes the trip longer than
it has to be. The prices of the search are these rows, its deal tells how the entries' times are spent.
"""

from pacerose.middles import turned_rows
from pacerose.moves import Moves
from pacerose.roses import Rose
from pacerose.shares import told_images
from pacerose.simplex import begun, solved_from
from pacerose.trips import gathered, many_times
from pacerose.vectors import inner, lowest, zeros


def placed(block, step):
    return [(block + k, number) for k, number in enumerate(step) if number != 0]


class FloorSearch:
    """For a book that has a keeper, and a right trip."""

    def __init__(self, book, trip):
        self.book = book
        self.trip = trip
        self.gainers = book.told()
        self.images = told_images(book.kind, trip)
        size, below = book.kind.size, book.kind.size * len(self.gainers)
        columns, self.costs = [], []
        for b, j in enumerate(self.gainers):
            columns.append([(k, -number) for k, number in placed(size * b, book.entries[j][0])])
            columns.extend([placed(size * b, image) for image, _ in book.pairs])
            columns.extend([placed(size * b, image) + [(below + i, 1)] for image, i in self.images])
            self.costs.extend([-book.lows[j], *book.costs, *zeros(len(self.images))])
        columns.extend([[(below + i, 1)] for i in range(len(trip))])
        self.costs.extend(zeros(len(trip)))
        goal = (*zeros(below), *[count for _, count in trip])
        # The steps of the trip may be left over: the search begins with that.
        _, self.deal, self.prices = solved_from(begun(columns, goal, len(trip)), columns, self.costs)

    def time(self):
        scale, counts = self.deal
        return lowest(-inner(counts, self.costs), scale * self.book.unit)

    def keeper(self):
        """A keeper in which the trip takes the least time."""
        size, (scale, row) = self.book.kind.size, self.prices
        rows = [row[size * b:size * (b + 1)] for b in range(len(self.gainers))]
        return Rose(size, scale * self.book.unit, turned_rows(self.book.kind, rows))

    def paper(self):
        book, (scale, counts) = self.book, self.deal
        gains, costs, moves = [0] * len(book.entries), [0] * len(book.entries), Moves()
        wide = 1 + len(book.pairs) + len(self.images)
        for b, j in enumerate(self.gainers):
            gains[j] = counts[wide * b]
            told = counts[wide * b + 1:wide * (b + 1)]
            for number, (image, k) in zip(told, book.pairs):
                costs[k] += number
                moves.put(book.entries[j][0], image, book.entries[k][0], number)
            for number, (image, i) in zip(told[len(book.pairs):], self.images):
                moves.put(book.entries[j][0], image, self.trip[i][0], number)
        one = book.trip_of(gains)
        other = gathered(many_times(self.trip, scale) + book.trip_of(costs))
        return scale, tuple(gains), tuple(costs), moves.shares(book.kind, one, other)
