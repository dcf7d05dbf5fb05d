"""Spots that are best for all roses: those that halve.

A rose of the plane that is mirrored is a sum of sticks, so all is told by what spots cost in sticks. In the stick of
a row places are seen along it; which comes ahead of which changes only at the rows across two places.
"""

from pacerose.clips import box, clipped
from pacerose.forms import is_pair, is_row_of, is_scale
from pacerose.meeting import apart, check_party, check_spot, weighted_places
from pacerose.roses import Rose
from pacerose.simplex import deal_or_dam
from pacerose.sticks import as_stick, stick_sum
from pacerose.vectors import inner, lowest, minus, plus, reduced, scaled_down, times, zeros
from pacerose.ways import blends_and_slower


def turning_sticks(party):
    """The sticks across each two places, and along the steps between them; with one place the two unit steps."""
    places, found = sorted(list(party)), [(1, 0), (0, 1)] if len(party) == 1 else []
    for k, one in enumerate(places):
        for other in places[:k]:
            right, up = minus(one, other)
            found.extend([as_stick((right, up)), as_stick((-up, right))])
    return sorted(set(found))


def turning_rows(party):
    """These sticks and their negatives: what holds for all of these rows, and is told by places, holds for all."""
    sticks = turning_sticks(party)
    return sticks + [times(-1, stick) for stick in sticks]


def seen_along(party, row):
    """The places with their weights in the order of their dots with a row that turns a bit on from this one."""
    right, up = row
    told = [(inner(row, place), inner((-up, right), place), place, weight) for place, weight in weighted_places(party)]
    return [(place, weight) for _, _, place, weight in sorted(told)]


def middle_at(told, whole):
    """The index of the first one by which more than half of all weights is reached."""
    reached, at = told[0][1], 0
    while 2 * reached <= whole:
        at += 1
        reached += told[at][1]
    return at


def all_weights(party):
    return sum([party[place] for place in party])


def top_place(party, row):
    """A place at the top of the row: it is cheapest in its stick."""
    told = seen_along(party, row)
    return told[middle_at(told, all_weights(party))][0]


def top_of(party, row):
    return inner(row, top_place(party, row))


def spread_row(party, row):
    """What the cheapest spots cost in the sticks of rows that are turned on a bit is their dot with this row."""
    told = seen_along(party, row)
    at, found = middle_at(told, all_weights(party)), zeros(2)
    middle = told[at][0]
    for k, (place, weight) in enumerate(told):
        turn = weight if k > at else -weight
        found = plus(found, times(turn, minus(place, middle)))
    return found


def made_cost_rose(party, spot):
    return stick_sum(2, [(step, lowest(weight, spot[0])) for step, weight in apart(party, spot)])


def check_party_and_spot(party, spot):
    check_party(party)
    check_spot(spot)


def cost_rose(party, spot):
    check_party_and_spot(party, spot)
    return made_cost_rose(party, spot)


def spread_rose(party):
    check_party(party)
    return Rose(2, 1, [spread_row(party, row) for row in turning_rows(party)])


def row_against(party, one, other):
    """A row without a common divisor in whose stick one costs more than other; None if there is none."""
    row = blends_and_slower(made_cost_rose(party, one), made_cost_rose(party, other))[1]
    return None if row is None else reduced(row)


def check_two_spots(party, one, other):
    check_party(party)
    check_spot(one)
    check_spot(other)


def never_worse(party, one, other):
    check_two_spots(party, one, other)
    return row_against(party, one, other) is None


def worse_row(party, one, other):
    check_two_spots(party, one, other)
    return row_against(party, one, other)


def row_beyond(party, spot):
    """A row whose dot with the spot is above its top; None if the spot halves."""
    scale, point = spot
    for row in turning_rows(party):
        if inner(row, point) > scale * top_of(party, row):
            return row
    return None


def halves(party, spot):
    check_party_and_spot(party, spot)
    return row_beyond(party, spot) is None


def better_place(party, spot):
    check_party_and_spot(party, spot)
    row = row_beyond(party, spot)
    return None if row is None else (times(-1, row), top_place(party, row))


def halving_spots(party):
    """The ascending ends of what halves: none, one or two spots."""
    places = list(party)
    body = box([((min(line), 1), (max(line), 1)) for line in zip(*places)])
    for row in turning_rows(party):
        body = clipped(body, row, (top_of(party, row), 1))
    scale, points = body
    return tuple(sorted([scaled_down(scale, point) for point in points]))


def halving(party):
    check_party(party)
    return halving_spots(party)


def fence(party):
    check_party(party)
    rows = turning_rows(party)
    columns = [[(0, row[0]), (1, row[1]), (2, -top_of(party, row))] for row in rows]
    deal = deal_or_dam(columns, (0, 0, 1))[0]
    if deal is None:
        return None
    # Two are never enough: the tops of a row and of its negative are together not below 0.
    return tuple([(count, row) for count, row in zip(deal[1], rows) if count > 0])


def is_fence(party, thing):
    check_party(party)
    if not isinstance(thing, tuple) or len(thing) != 3:
        return False
    if not all([is_pair(pair) and is_scale(pair[0]) and is_row_of(pair[1], 2) for pair in thing]):
        return False
    together = zeros(2)
    for weight, row in thing:
        together = plus(together, times(weight, row))
    return together == zeros(2) and sum([weight * top_of(party, row) for weight, row in thing]) < 0
