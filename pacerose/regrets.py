"""How much more a spot costs than others at most, whatever the rose, and the spot that is calmest so."""

from pacerose.forms import is_pair, is_ratio, is_row_of, is_scale
from pacerose.halving import check_party_and_spot, top_place, turning_sticks
from pacerose.meeting import apart, check_party, cost_at, found_best, is_spot, weighted_places
from pacerose.simplex import solved, sparse
from pacerose.sticks import stick_sum, stick_time
from pacerose.vectors import compare, inner, lowest, reduced, scaled_down, times, zeros


def stick_cost(party, spot, row):
    """What the spot costs in the stick of the row, times its scale."""
    return stick_time(row, apart(party, spot))


def least_cost(party, row):
    """What the cheapest spots cost in the stick of the row."""
    return stick_cost(party, (1, top_place(party, row)), row)


def regret_and_row(party, spot):
    """The regret, None if there is none, and the first row in whose stick it shows; None for (1, 1)."""
    found, shown = (1, 1), None
    for row in turning_sticks(party):
        above, below = stick_cost(party, spot, row), spot[0] * least_cost(party, row)
        if below == 0 and above > 0:
            return None, row
        if below > 0 and compare((above, below), found) > 0:
            found, shown = lowest(above, below), row
    return found, shown


def regret(party, spot):
    check_party_and_spot(party, spot)
    return regret_and_row(party, spot)[0]


def regret_row(party, spot):
    check_party_and_spot(party, spot)
    row = regret_and_row(party, spot)[1]
    return None if row is None else (row, top_place(party, row))


def pieces(party, row):
    """What a spot costs in the stick of the row: the greatest of all slopes times its dot with the row, and bases."""
    heights = [inner(row, place) for place, _ in weighted_places(party)]
    weights = [weight for _, weight in weighted_places(party)]
    found = []
    for many in range(len(heights) + 1):
        # So many of the heights, from the least one on, lie below the spot.
        least = sorted(heights)[:many]
        turned = [weight if height in least else -weight for height, weight in zip(heights, weights)]
        piece = (sum(turned), -inner(turned, heights))
        if piece not in found:
            found.append(piece)
    return found


class Calm:
    """The search for the least regret: its prices are a spot and its regret, its deal makes the papers."""

    def __init__(self, party):
        self.rows = []
        columns, costs = [], []
        for row in turning_sticks(party):
            least = least_cost(party, row)
            for slope, base in pieces(party, row):
                self.rows.append(row)
                columns.append(sparse((*times(slope, row), -least)))
                costs.append(-base)
        # A regret is from 1 on.
        columns.append([(2, -1)])
        _, self.deal, (scale, told) = solved(columns, costs + [-1], (0, 0, -1))
        self.ratio = lowest(told[2], scale)
        self.spot = scaled_down(scale, told[:2])

    def papers(self):
        if self.ratio == (1, 1):
            return ()
        weights = {}
        for row, count in zip(self.rows, self.deal[1]):
            if count > 0:
                weights[row] = weights.get(row, 0) + count
        told = reduced([weights[row] for row in weights])
        return tuple(zip(told, list(weights)))


def least_regret(party):
    check_party(party)
    return Calm(party).ratio


def calm_spot(party):
    check_party(party)
    return Calm(party).spot


def calm_papers(party):
    check_party(party)
    return Calm(party).papers()


def is_calm_paper(thing):
    return is_pair(thing) and is_scale(thing[0]) and is_row_of(thing[1], 2) and thing[1] != zeros(2)


def right_papers(party, ratio, papers):
    if not isinstance(papers, tuple) or len(papers) > 3 or not all([is_calm_paper(paper) for paper in papers]):
        return False
    if len(papers) == 0:
        return ratio == (1, 1)
    together = sum([weight * least_cost(party, row) for weight, row in papers])
    rose = stick_sum(2, [(row, (weight, 1)) for weight, row in papers])
    least = cost_at(rose, party, found_best(rose, party))
    return together > 0 and compare(least, (ratio[0] * together, ratio[1])) >= 0


def are_calm(party, ratio, spot, papers):
    check_party(party)
    if not is_ratio(ratio) or compare(ratio, (1, 1)) < 0 or not is_spot(spot):
        return False
    told = regret_and_row(party, spot)[0]
    return told is not None and compare(told, ratio) <= 0 and right_papers(party, ratio, papers)
