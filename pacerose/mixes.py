"""Ways of which each part may be gone by either of two roses."""

from pacerose.errors import NotFlat
from pacerose.forms import is_pair, is_ratio, is_row_of, is_scale
from pacerose.hulls import mixture_and_outer
from pacerose.planar import cross, ring
from pacerose.roses import Rose, check_rose, check_step, hull_corners, time_of, top
from pacerose.simplex import solved, sparse
from pacerose.vectors import compare, inner, lowest, minus, plus, scaled_down, times, told_together, zeros
from pacerose.ways import blend_and_beyond, check_two_roses


def check_mix(one, other, step):
    check_rose(one)
    check_rose(other)
    check_step(one.size, step)
    check_two_roses(one, other)


def best_common(one, other, step):
    """The answer of the search for the row held by both that is worth most."""
    size = one.size
    columns = [sparse((*times(other.scale, row), 1, 0)) for row in one.rows]
    columns.extend([sparse((*times(-one.scale, row), 0, 1)) for row in other.rows])
    columns.extend([[(size, 1)], [(size + 1, 1)]])
    costs = [-inner(row, step) for row in one.rows] + [0] * (len(other.rows) + 2)
    return solved(columns, costs, (*zeros(size), 1, 1))


def found_row(one, deal):
    scale, counts = deal
    row = zeros(one.size)
    for count, part in zip(counts, one.rows):
        row = plus(row, times(count, part))
    return scaled_down(scale * one.scale, row)


def found_split(other, step, prices):
    """The prices of the search tell how far the part gone by other leads back."""
    scale, row = prices
    return scaled_down(scale, plus(times(scale, step), times(other.scale, row[:len(step)])))


def split_time(one, other, step, part):
    """What a split takes."""
    scale, first = part
    last = minus(times(scale, step), first)
    above = top(one, first) * other.scale + top(other, last) * one.scale
    return lowest(above, scale * one.scale * other.scale)


def mixed_going(one, other, step):
    check_mix(one, other, step)
    return split_time(one, other, step, found_split(other, step, best_common(one, other, step)[2]))


def best_split(one, other, step):
    check_mix(one, other, step)
    return found_split(other, step, best_common(one, other, step)[2])


def best_row(one, other, step):
    check_mix(one, other, step)
    return found_row(one, best_common(one, other, step)[1])


def is_row_over_scale(thing, size):
    return is_pair(thing) and is_scale(thing[0]) and is_row_of(thing[1], size)


def holds_row(rose, scale, row):
    return blend_and_beyond(rose, scale, row)[0] is not None


def are_mixed(one, other, step, told, split, common):
    check_mix(one, other, step)
    if not is_ratio(told) or not is_row_over_scale(split, one.size) or not is_row_over_scale(common, one.size):
        return False
    scale, row = common
    if split_time(one, other, step, split) != told or lowest(inner(row, step), scale) != told:
        return False
    return holds_row(one, scale, row) and holds_row(other, scale, row)


def lesser(one, other):
    return one if compare(one, other) <= 0 else other


def narrower(one, other):
    """The mixed rose in size 1: by each of both steps the quicker one goes."""
    ahead = lesser(time_of(one, (1,)), time_of(other, (1,)))
    behind = lesser(time_of(one, (-1,)), time_of(other, (-1,)))
    return Rose(1, ahead[1] * behind[1], [(ahead[0] * behind[1],), (-behind[0] * ahead[1],)])


def crossings(here, there):
    """Where the edges of two rings cross: pairs (scale, point)."""
    found = []
    for start, stop in zip(here, here[1:] + here[:1]):
        ahead = minus(stop, start)
        for low, high in zip(there, there[1:] + there[:1]):
            along, apart = minus(high, low), minus(low, start)
            turn = cross(ahead, along)
            if turn == 0:
                continue
            one, other = cross(apart, along), cross(apart, ahead)
            if turn < 0:
                turn, one, other = -turn, -one, -other
            if 0 <= one <= turn and 0 <= other <= turn:
                found.append((turn, plus(times(turn, start), times(one, ahead))))
    return found


def shared_points(one, other):
    """Points, as pairs (scale, point), whose hull is what both hulls share, all times both scales of the roses."""
    here = ring([times(other.scale, corner) for corner in hull_corners(one)])
    there = ring([times(one.scale, corner) for corner in hull_corners(other)])
    points = [(1, point) for point in here if mixture_and_outer(there, point)[0] is not None]
    points.extend([(1, point) for point in there if mixture_and_outer(here, point)[0] is not None])
    return points + crossings(here, there)


def mixed_rose(one, other):
    check_two_roses(one, other)
    if one.size == 3:
        raise NotFlat("a mixed rose is told in the plane only")
    if one.size == 1:
        return narrower(one, other)
    scale, rows = told_together(shared_points(one, other))
    return Rose(2, one.scale * other.scale * scale, rows)
