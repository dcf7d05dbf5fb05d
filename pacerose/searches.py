"""The search for shares of one sum of trips in another one, if it is open how often each trip counts.

A term is a tuple (one, other, tail) of two trips and some numbers: if it counts n times, one is n times among what
has to be made, other n times among what it is made of, and n times its tail is put to the tails of all terms. The
goal is a term that counts once; the tails of all terms have to add up to its tail. The prices of the search are
rows for the steps that have to be made, so a rose, in which going by each step of what it is made of takes at most
what the prices of these steps tell.
"""

from math import lcm

from pacerose.kinds import led_images
from pacerose.middles import turned_rows
from pacerose.moves import Moves
from pacerose.roses import Rose
from pacerose.simplex import begun, deal_or_dam_from, solved_from
from pacerose.trips import gathered


def steps_in(trips):
    """The indexes of the different steps of trips, ascending."""
    found = sorted(set([step for trip in trips for step, _ in trip]))
    return {step: at for at, step in enumerate(found)}


def shared_below(ratios):
    """A number with which all of the ratios become whole."""
    unit = 1
    for _, below in ratios:
        unit = lcm(unit, below)
    return unit


def whole(ratio, unit):
    return ratio[0] * (unit // ratio[1])


class Search:
    def __init__(self, kind, terms, goal):
        self.kind = kind
        self.terms = terms
        self.aim = goal
        self.ones = steps_in([one for one, _, _ in terms] + [goal[0]])
        self.others = steps_in([other for _, other, _ in terms] + [goal[1]])
        self.pairs = [(image, step) for step in self.others for image in led_images(kind, step)]
        self.below = kind.size * len(self.ones)
        self.tails = self.below + len(self.others)
        columns = [self.term_column(*term) for term in terms]
        for block in range(0, self.below, kind.size):
            columns.extend([self.image_column(block, image, step) for image, step in self.pairs])
        self.columns = columns + [[(self.below + at, 1)] for at in range(len(self.others))]

    def shared(self, one, other):
        """What has to be made and what it is made of: pairs of a line and a number."""
        found = []
        for step, count in one:
            block = self.kind.size * self.ones[step]
            found.extend([(block + k, count * number) for k, number in enumerate(step) if number != 0])
        return found + [(self.below + self.others[step], count) for step, count in other]

    def tail(self, numbers):
        return [(self.tails + k, number) for k, number in enumerate(numbers) if number != 0]

    def term_column(self, one, other, numbers):
        return [(line, -number) for line, number in self.shared(one, other)] + self.tail(numbers)

    def image_column(self, block, image, step):
        column = [(block + k, number) for k, number in enumerate(image) if number != 0]
        return column + [(self.below + self.others[step], 1)]

    def goal(self):
        one, other, numbers = self.aim
        told = [0] * (self.tails + len(numbers))
        for line, number in self.shared(one, other) + self.tail(numbers):
            told[line] = number
        return tuple(told)

    def begun(self):
        """What may be left over of the others' steps is no gap: the search begins with it."""
        return begun(self.columns, self.goal(), len(self.others))

    def deal_or_dam(self):
        return deal_or_dam_from(self.begun(), self.columns)

    def least(self, costs):
        """The answer of the search for the least cost: costs are for the terms, what is left costs nothing."""
        return solved_from(self.begun(), self.columns, costs + [0] * (len(self.columns) - len(costs)))

    def shares(self, often, counts):
        """The shares in a deal whose scale is the goal's count."""
        one, other = list(self.aim[0]), list(self.aim[1])
        one, other = [(step, count * often) for step, count in one], [(step, count * often) for step, count in other]
        for number, (here, there, _) in zip(counts, self.terms):
            one.extend([(step, count * number) for step, count in here])
            other.extend([(step, count * number) for step, count in there])
        moves, at = Moves(), len(self.terms)
        for made in self.ones:
            for number, (image, step) in zip(counts[at:at + len(self.pairs)], self.pairs):
                moves.put(made, image, step, number)
            at += len(self.pairs)
        return moves.shares(self.kind, gathered(one), gathered(other))

    def priced_rose(self, scale, prices):
        """The rose of the prices over the scale, kept by the kind."""
        size = self.kind.size
        rows = [prices[block:block + size] for block in range(0, self.below, size)]
        return Rose(size, scale, turned_rows(self.kind, rows))
