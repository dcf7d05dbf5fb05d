"""Roses of the plane that have no parts: those of one row, and those of two rows that are not on one line."""

from itertools import combinations

from pacerose.errors import BadSteps, TooMany
from pacerose.forms import are_rows_of
from pacerose.planar import cross, ring
from pacerose.plane import check_flat_rose, polygon_of
from pacerose.roses import Rose, leaders
from pacerose.sides import steps_around
from pacerose.sticks import rows_across, steps_of_both
from pacerose.trips import check_trip
from pacerose.vectors import compare, inner, minus, plus, reduced, times, told_together


def outward(step):
    """A quarter of a turn back from a step around a polygon."""
    return step[1], -step[0]


def loose_piece(points):
    """Corners of a triangle whose sides have directions of the polygon's, or of a line that has two of them."""
    steps = steps_around(points)
    first = steps[0]
    turns = [step for step in steps if cross(first, step) > 0]
    turn, last = turns[-1], steps[len(turns) + 1]
    if cross(first, last) == 0:
        return [(0, 0), first]
    ahead = times(cross(turn, last), first)
    return [(0, 0), ahead, plus(ahead, times(cross(last, first), turn))]


def piece_at_zeros(points):
    """A piece put to zeros with the corner that leads where zeros is on the rim of the polygon."""
    where = (0, 0)
    for start, step in zip(points, steps_around(points)):
        if inner(outward(step), start) == 0:
            where = plus(where, outward(step))
    piece = loose_piece(points)
    apex = leaders(piece, where)[0]
    return [minus(corner, apex) for corner in piece]


def most_of_piece(points, beside):
    """How many times a piece may be taken away: beside are its corners that lead where those of the polygon do."""
    most = None
    steps, turns = steps_around(points), steps_around(beside)
    for start, corner, step, turn in zip(points, beside, steps, turns):
        ahead = outward(step)
        for above, below in [(inner(step, step), inner(step, turn)), (inner(ahead, start), inner(ahead, corner))]:
            if below > 0 and (most is None or compare((above, below), most) < 0):
                most = (above, below)
    return most


def split_off(scale, points):
    """The pair of a part without parts and of what is left, again as a pair (scale, points)."""
    piece, ahead = piece_at_zeros(points), [outward(step) for step in steps_around(points)]
    beside = [leaders(piece, plus(here, after))[0] for here, after in zip(ahead[-1:] + ahead[:-1], ahead)]
    above, below = most_of_piece(points, beside)
    part = Rose(2, scale * below, [times(above, corner) for corner in piece])
    left = [minus(times(below, point), times(above, corner)) for point, corner in zip(points, beside)]
    whole, told = told_together([(scale * below, point) for point in left])
    return part, (whole, ring(told))


def parts(rose):
    check_flat_rose(rose)
    scale, points = rose.scale, polygon_of(rose)
    found = []
    while len(points) > 3 or (0, 0) not in points:
        if len(points) == 2:
            return (*found, Rose(2, scale, points[:1]), Rose(2, scale, points[1:]))
        part, (scale, points) = split_off(scale, points)
        found.append(part)
    return (*found, Rose(2, scale, points)) if len(points) > 1 else tuple(found)


def paired_rows(one, other, apart):
    """Two rows across two lines, their difference across a third one; they may both be turned about."""
    here, there = times(cross(other, apart), one), times(cross(one, apart), other)
    told = reduced(here + there)
    return [told[:2], told[2:]]


def all_threes(steps):
    """The rows of all three roses of right steps, ascending."""
    across = rows_across(2, steps)
    found = []
    for row in across:
        found.extend([(row,), (times(-1, row),)])
    for a, b, c in combinations(across, 3):
        for rows in [paired_rows(a, b, c), paired_rows(a, c, b), paired_rows(b, c, a)]:
            found.append(tuple(sorted(rows)))
            found.append(tuple(sorted([times(-1, row) for row in rows])))
    return sorted(found)


def three_roses(steps):
    if not are_rows_of(steps, 2):
        raise BadSteps("steps are a list of steps of size 2")
    if len(steps) > 10:
        raise TooMany(10)
    return [Rose(2, 1, rows) for rows in all_threes(steps)]


def time_by(rows, trip):
    return sum([count * max([0] + [inner(row, step) for row in rows]) for step, count in trip])


def three_bar(one, other):
    check_trip(2, one)
    check_trip(2, other)
    steps = steps_of_both(one, other)
    if len(steps) > 10:
        raise TooMany(10)
    for rows in all_threes(steps):
        if time_by(rows, one) > time_by(rows, other):
            return Rose(2, 1, rows)
    return None
