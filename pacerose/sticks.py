"""Sums of sticks: roses by which a step takes what its dots with some rows are, whichever way they point."""

from itertools import combinations
from math import lcm

from pacerose.errors import BadPairs, BadSteps, NotMirrored, TooMany
from pacerose.forms import are_rows_of, is_list, is_pair, is_ratio, is_row_of
from pacerose.kinds import check_size, mirror_kind
from pacerose.roses import Rose, check_rose, hull_corners, keeps_rose
from pacerose.shells import extreme, space_cross
from pacerose.sides import sides, steps_around
from pacerose.trips import check_trip
from pacerose.vectors import divisor, inner, lowest, minus, plus, reduced, times, unit_row, zeros


def is_stick_pair(thing, size):
    return is_pair(thing) and is_row_of(thing[0], size) and is_ratio(thing[1]) and thing[1][0] >= 0


def stick_sum(size, pairs):
    check_size(size)
    if not is_list(pairs) or not all([is_stick_pair(pair, size) for pair in pairs]):
        raise BadPairs("pairs are a list of pairs of a row and a ratio from 0 on")
    if len(pairs) > 12:
        raise TooMany(12)
    scale = 1
    for _, often in pairs:
        scale = lcm(scale, often[1])
    corners = [zeros(size)]
    for row, often in pairs:
        wide = times(often[0] * (scale // often[1]), row)
        corners = extreme([plus(corner, wide) for corner in corners] + [minus(corner, wide) for corner in corners])
    return Rose(size, scale, corners)


def as_stick(row):
    """The stick along a row that is not zeros."""
    bare = reduced(row)
    return bare if bare > zeros(len(bare)) else times(-1, bare)


def is_mirrored_side(side):
    """Whether the step behind each corner is the opposite of the one half around the side."""
    if len(side) % 2 == 1:
        return False
    half, steps = len(side) // 2, steps_around(side)
    return all([step == times(-1, other) for step, other in zip(steps, steps[half:] + steps[:half])])


def sticks(rose):
    check_rose(rose)
    if not keeps_rose(mirror_kind(rose.size), rose):
        raise NotMirrored("the rose is not mirrored")
    if len(rose.rows) == 0:
        return ()
    found = {}
    for side in sides(hull_corners(rose)):
        if not is_mirrored_side(side):
            return None
        for step in steps_around(side):
            found[as_stick(step)] = lowest(divisor(step), 2 * rose.scale)
    return tuple([(stick, found[stick]) for stick in sorted(list(found))])


def lines_of(size, steps):
    """For each line of steps, the unit steps among them, the stick along it; ascending."""
    told = [step for step in steps if step != zeros(size)] + [unit_row(size, k) for k in range(size)]
    return sorted(set([as_stick(step) for step in told]))


def rows_across(size, steps):
    lines = lines_of(size, steps)
    if size == 1:
        return lines
    if size == 2:
        return sorted([as_stick((-line[1], line[0])) for line in lines])
    return sorted(set([as_stick(space_cross(one, other)) for one, other in combinations(lines, 2)]))


def stick_rows(size, steps):
    check_size(size)
    if not are_rows_of(steps, size):
        raise BadSteps("steps are a list of steps")
    if len(steps) > 12:
        raise TooMany(12)
    return rows_across(size, steps)


def stick_time(row, trip):
    return sum([count * abs(inner(row, step)) for step, count in trip])


def steps_of_both(one, other):
    """The ascending list of the different steps of two trips."""
    return sorted(set([step for step, _ in one + other]))


def stick_bar(size, one, other):
    check_size(size)
    check_trip(size, one)
    check_trip(size, other)
    steps = steps_of_both(one, other)
    if len(steps) > 12:
        raise TooMany(12)
    for row in rows_across(size, steps):
        if stick_time(row, one) > stick_time(row, other):
            return row
    return None
