"""Whether the field of one closed trip can be moved into that of another."""

from pacerose.clips import clipped
from pacerose.forms import is_pair, is_ratio
from pacerose.plane import field_of
from pacerose.sides import around
from pacerose.trips import check_trip, end, gathered
from pacerose.vectors import inner, lowest, minus, times


def check_both(one, other):
    check_trip(2, one)
    check_trip(2, other)


def closed_pair(one, other):
    reached = end(2, other)
    home, ahead = (times(-1, reached), 1), (minus(reached, end(2, one)), 1)
    return gathered([*one, ahead, home]), gathered([*other, home])


def closings(one, other):
    check_both(one, other)
    return closed_pair(one, other)


def rims(points):
    """Rows that hold a polygon in, whether it is flat or not: what lies within has no greater dots with them."""
    if len(points) == 1:
        return [(1, 0), (0, 1), (-1, 0), (0, -1)]
    found = []
    for start, stop in around(points):
        right, up = minus(stop, start)
        found.append((up, -right))
        if len(points) == 2:
            found.append((right, up))
    return found


def bounds(one, other):
    """For fields: pairs of a row and the greatest dot with it by which the first one may be moved within the other."""
    inside, outside = [field_of(trip) for trip in closed_pair(one, other)]
    found = []
    for row in rims(outside):
        room = max([inner(row, point) for point in outside]) - max([inner(row, point) for point in inside])
        found.append((row, room))
    return found


def fit(one, other):
    check_both(one, other)
    # The first corner of the inner field is zeros: where it is moved to lies within the outer one.
    body = (1, field_of(closed_pair(one, other)[1]))
    for row, room in bounds(one, other):
        body = clipped(body, row, (room, 1))
    scale, points = body
    if len(points) == 0:
        return None
    right, up = min(points)
    return lowest(right, scale), lowest(up, scale)


def is_fit(one, other, thing):
    check_both(one, other)
    if not is_pair(thing) or not is_ratio(thing[0]) or not is_ratio(thing[1]):
        return False
    (right, scale), (up, other_scale) = thing
    moved = (right * other_scale, up * scale)
    return all([inner(row, moved) <= room * scale * other_scale for row, room in bounds(one, other)])
