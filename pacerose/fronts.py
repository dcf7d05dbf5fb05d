"""Spots that hold: from them no other spot is never worse."""

from pacerose.forms import is_row_of
from pacerose.halving import all_weights, check_party_and_spot
from pacerose.meeting import apart
from pacerose.planar import cross
from pacerose.vectors import compare, inner, lowest, plus, reduced, scaled_down, times, zeros


def is_stop(around, half, row):
    """Whether the places ahead of the spot, or beside it, have together more than half of all weights."""
    return 2 * sum([weight for step, weight in around if inner(row, step) >= 0]) > half


def all_stops(party, spot):
    """Those rows along and across the steps to places that stop, ascending: all rows that stop lie between such."""
    around, whole, found = apart(party, spot), all_weights(party), []
    steps = [step for step, _ in around if step != zeros(2)]
    for right, up in steps if len(steps) > 0 else [(1, 0)]:
        found.extend([(right, up), (-right, -up), (-up, right), (up, -right)])
    return [row for row in sorted(set([reduced(row) for row in found])) if is_stop(around, whole, row)]


def farthest(rows, first):
    """Of the rows less than half a turn on from the first one the farthest one; None if there is none."""
    found = None
    for row in rows:
        if cross(first, row) > 0 and (found is None or cross(found, row) > 0):
            found = row
    return found


def stops_and_lead(party, spot):
    """The pair of stops and None, or of None and a step to which no row that stops is opposed."""
    rows = all_stops(party, spot)
    found = rows[:1]
    # From each row on to the farthest one that is less than half a turn away, until the first one is not farther.
    while len(found) < 3 or cross(found[-1], found[0]) <= 0:
        row = farthest(rows, found[-1])
        if row is None:
            right, up = found[-1]
            return None, (up, -right)
        found.append(row)
    return tuple(found), None


def holds(party, spot):
    check_party_and_spot(party, spot)
    return stops_and_lead(party, spot)[0] is not None


def stops(party, spot):
    check_party_and_spot(party, spot)
    return stops_and_lead(party, spot)[0]


def leads_away(rows, step):
    return all([inner(row, step) >= 0 for row in rows])


def are_stops(party, spot, thing):
    check_party_and_spot(party, spot)
    if not isinstance(thing, tuple) or len(thing) not in (3, 4):
        return False
    if not all([is_row_of(row, 2) and row != zeros(2) for row in thing]):
        return False
    # If some step is opposed by none of the rows, there is such a step across one of them.
    if any([leads_away(thing, (-up, right)) or leads_away(thing, (up, -right)) for right, up in thing]):
        return False
    around, whole = apart(party, spot), all_weights(party)
    return all([is_stop(around, whole, row) for row in thing])


def crossing(around, ahead):
    """How many times the step ahead it is to the first place, or to the first line through two of them."""
    found = None
    for one, _ in around:
        times_on = [(inner(ahead, one), inner(ahead, ahead))] if cross(ahead, one) == 0 else []
        for other, _ in around:
            line = (other[0] - one[0], other[1] - one[1])
            turn = cross(line, ahead)
            if turn != 0:
                times_on.append(lowest(cross(line, one), turn))
        for told in times_on:
            if told[0] > 0 and (found is None or compare(told, found) < 0):
                found = told
    return found


def lean(party, spot):
    check_party_and_spot(party, spot)
    ahead = stops_and_lead(party, spot)[1]
    if ahead is None:
        return None
    # No spot on the way is worse until a line through two places is crossed.
    above, below = crossing(apart(party, spot), ahead)
    scale, row = spot
    return scaled_down(scale * below, plus(times(below, row), times(above, ahead)))
