"""The mix of routes that is safest whatever the rose.

Some roses are gathered, each for one of the routes: in it the mix takes long against this route. Of the mixes that
are safest in these roses one is asked for roses in which it is less safe, until there are none.
"""

from pacerose.claims import rose_of_dam
from pacerose.errors import BadMix, BadRatio
from pacerose.facts import weighted_trip
from pacerose.factors import factor_of, search
from pacerose.forms import are_counts, is_ratio
from pacerose.kinds import check_kind
from pacerose.middles import middle, turned_rows
from pacerose.roses import Rose
from pacerose.routes import check_routes
from pacerose.searches import steps_in
from pacerose.shares import shares_and_dam, told_images
from pacerose.simplex import deal_or_dam, solved, sparse
from pacerose.sums import greater, rose_times
from pacerose.trips import many_times, whole_time
from pacerose.vectors import compare, divisor, lowest, reduced, unit_row, zeros


def check_safest(kind, routes):
    check_kind(kind)
    check_routes(kind.size, routes)


def row_against(kind, one, other):
    """A row by whose images other takes nothing, but one something; None if there is none."""
    columns = [sparse(image) for image, _ in told_images(kind, other)]
    for step, _ in one:
        dammed = deal_or_dam(columns, step)[1]
        if dammed is not None:
            return dammed
    return None


def rose_against(kind, routes, index):
    """The index of a route that takes nothing in a rose in which the one at index takes something, and this rose."""
    for j, other in enumerate(routes):
        row = row_against(kind, routes[index], other)
        if row is not None:
            return j, Rose(kind.size, 1, turned_rows(kind, [row]))
    return None


class Mixing:
    """None of the routes may be the one of nothing."""

    def __init__(self, kind, routes):
        self.kind = kind
        self.routes = routes
        self.against = [rose_against(kind, routes, index) for index in range(len(routes))]
        self.kept = [index for index, told in enumerate(self.against) if told is None]
        self.ratio = None
        self.mix = [1] * len(self.kept)
        self.gathered = []
        self.often = ()

    def worse(self):
        """Roses, each with the index of a route, in which the mix takes longer against it than the ratio tells."""
        one, found = weighted_trip([self.routes[index] for index in self.kept], self.mix), []
        for j, other in enumerate(self.routes):
            told = search(self.kind, one, other)
            above, below = factor_of(told)
            factor = lowest(above, below * sum(self.mix))
            if self.ratio is None or compare(factor, self.ratio) > 0:
                found.append((j, rose_of_dam(self.kind, len(one), told[2][1])))
        return found

    def settle(self):
        """The least ratio for the gathered roses, with a mix and with how often each of these is taken."""
        many = len(self.kept)
        columns = []
        for j, rose in self.gathered:
            told = [whole_time(rose, self.routes[index]) for index in self.kept]
            columns.append(sparse((*told, whole_time(rose, self.routes[j]))))
        columns.append([(k, -1) for k in range(many)])
        columns.extend([[(k, -1)] for k in range(many)])
        costs = [0] * len(self.gathered) + [-1] + [0] * many
        _, (scale, counts), (_, prices) = solved(columns, costs, (*zeros(many), 1))
        self.ratio = lowest(counts[len(self.gathered)], scale)
        self.mix = reduced(prices[:many])
        self.often = counts[:len(self.gathered)]

    def run(self):
        found = self.worse()
        while len(found) > 0:
            self.gathered.extend(found)
            self.settle()
            found = self.worse()

    def whole_mix(self):
        told = [0] * len(self.routes)
        for index, number in zip(self.kept, self.mix):
            told[index] = number
        return tuple(told)

    def trial(self):
        """A rose for each route; those that are in no mix are made to take long by what takes nothing on another."""
        steps = list(steps_in(self.routes))
        roses, own = [], 0
        for j, route in enumerate(self.routes):
            told = [((number, 1), rose) for number, (k, rose) in zip(self.often, self.gathered) if k == j]
            roses.append(middle(self.kind, steps, told))
            own += whole_time(roses[j], route)
        least = 1 if self.ratio is None else -(-own * self.ratio[0] // self.ratio[1])
        for route, told in zip(self.routes, self.against):
            if told is not None:
                j, rose = told
                roses[j] = greater(roses[j], rose_times(rose, (-(-least // whole_time(rose, route)), 1)))
        return tuple(roses)


def run_mixing(kind, routes):
    mixing = Mixing(kind, routes)
    if len(mixing.kept) > 0:
        mixing.run()
    return mixing


def safest(kind, routes):
    check_safest(kind, routes)
    if () in routes:
        return (0, 1), unit_row(len(routes), list(routes).index(()))
    mixing = run_mixing(kind, routes)
    return None if mixing.ratio is None else (mixing.ratio, mixing.whole_mix())


def mix_shares(kind, routes, mix, ratio):
    check_safest(kind, routes)
    if not are_counts(mix, len(routes)) or divisor(mix) != 1:
        raise BadMix("a mix is a tuple of a number from 0 on for each route, without a common divisor")
    if not is_ratio(ratio) or ratio[0] < 0:
        raise BadRatio("this is no ratio from 0 on")
    one, found = many_times(weighted_trip(routes, mix), ratio[1]), []
    for route in routes:
        told = shares_and_dam(kind, one, many_times(route, sum(mix) * ratio[0]))[0]
        if told is None:
            return None
        found.append(told)
    return tuple(found)


def trial(kind, routes):
    check_safest(kind, routes)
    return None if () in routes else run_mixing(kind, routes).trial()
