"""Where to meet: spots that cost a party least in a rose."""

from pacerose.errors import BadParty, BadRose, BadSpot
from pacerose.forms import is_row_of, is_scale
from pacerose.kinds import mirror_kind
from pacerose.mixes import holds_row, is_row_over_scale
from pacerose.roses import Rose, hull_corners, keeps_rose, leaders, top
from pacerose.simplex import deal_or_dam, solved, sparse
from pacerose.vectors import divisor, inner, lowest, minus, plus, scaled_down, times, unit_row, zeros


def check_mirrored(rose):
    if not isinstance(rose, Rose) or rose.size != 2 or not keeps_rose(mirror_kind(2), rose):
        raise BadRose("this is no mirrored rose of size 2")


def right_party(thing):
    if not isinstance(thing, dict) or not 1 <= len(thing) <= 8:
        return False
    # Keys are asked for their kind first: (True, 0) as a key is equal to (1, 0).
    return all([is_row_of(place, 2) and is_scale(thing[place]) for place in thing])


def check_party(party):
    if not right_party(party):
        raise BadParty("a party is a dict from one to eight places to weights from 1 on")


def is_spot(thing):
    return is_row_over_scale(thing, 2) and divisor((thing[0], *thing[1])) == 1


def check_spot(spot):
    if not is_spot(spot):
        raise BadSpot("a spot is a pair of a scale and a row without a common divisor")


def weighted_places(party):
    return [(place, party[place]) for place in sorted(list(party))]


def apart(party, spot):
    """For each place, ascending, the step from the spot to it, times the scale of the spot, and its weight."""
    scale, row = spot
    return [(minus(times(scale, place), row), weight) for place, weight in weighted_places(party)]


def cost_at(rose, party, spot):
    told = sum([weight * top(rose, step) for step, weight in apart(party, spot)])
    return lowest(told, spot[0] * rose.scale)


def found_pulls(rose, party, spot):
    corners, many = hull_corners(rose), len(party)
    pulling, columns = [], []
    for k, (step, weight) in enumerate(apart(party, spot)):
        for corner in leaders(corners, step):
            pulling.append((k, corner))
            columns.append(sparse((*times(weight, corner), *unit_row(many, k))))
    deal = deal_or_dam(columns, (0, 0, *[1 for _ in range(many)]))[0]
    if deal is None:
        return None
    scale, counts = deal
    rows = [zeros(2)] * many
    for count, (k, corner) in zip(counts, pulling):
        rows[k] = plus(rows[k], times(count, corner))
    return {place: scaled_down(scale * rose.scale, row) for place, row in zip(sorted(list(party)), rows)}


def found_best(rose, party):
    """A best spot: the prices of the search for the pulls that hold the places back most."""
    corners, many = hull_corners(rose), len(party)
    columns, costs = [], []
    for k, (place, weight) in enumerate(weighted_places(party)):
        for corner in corners:
            columns.append(sparse((*times(weight, corner), *unit_row(many, k))))
            costs.append(-weight * inner(corner, place))
    _, _, (scale, row) = solved(columns, costs, (0, 0, *[1 for _ in range(many)]))
    return scaled_down(scale, times(-1, row[:2]))


def check_meeting(rose, party, spot):
    check_mirrored(rose)
    check_party(party)
    check_spot(spot)


def cost(rose, party, spot):
    check_meeting(rose, party, spot)
    return cost_at(rose, party, spot)


def pulls(rose, party, spot):
    check_meeting(rose, party, spot)
    return found_pulls(rose, party, spot)


def is_pull(rose, step, thing):
    """Of any value: whether the rose holds it and it is worth all that going by the step takes."""
    if not is_row_over_scale(thing, 2):
        return False
    scale, row = thing
    return inner(row, step) * rose.scale == top(rose, step) * scale and holds_row(rose, scale, row)


def are_pulls(rose, party, spot, thing):
    check_meeting(rose, party, spot)
    if not isinstance(thing, dict) or len(thing) != len(party) or not all([is_row_of(place, 2) for place in thing]):
        return False
    across, up = (0, 1), (0, 1)
    for place, (step, weight) in zip(sorted(list(party)), apart(party, spot)):
        if place not in thing or not is_pull(rose, step, thing[place]):
            return False
        scale, row = thing[place]
        across = lowest(across[0] * scale + weight * row[0] * across[1], across[1] * scale)
        up = lowest(up[0] * scale + weight * row[1] * up[1], up[1] * scale)
    return across[0] == 0 and up[0] == 0


def cheaper(rose, party, spot):
    check_meeting(rose, party, spot)
    return found_best(rose, party) if found_pulls(rose, party, spot) is None else None


def best_spot(rose, party):
    check_mirrored(rose)
    check_party(party)
    return found_best(rose, party)
