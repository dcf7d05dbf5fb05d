"""Hulls of points over one scale, and what is left of them on one side of a plane."""

from math import lcm

from pacerose.shells import extreme
from pacerose.vectors import inner, minus, scaled_down, times, told_together


def box(bounds):
    """The corners of a box: bounds are for each axis its pair (low, high) of ratios."""
    scale = 1
    for low, high in bounds:
        scale = lcm(scale, low[1], high[1])
    points = [()]
    for low, high in bounds:
        ends = [low[0] * (scale // low[1]), high[0] * (scale // high[1])]
        points = [(*point, number) for point in points for number in ends]
    return scale, sorted(set(points))


def clipped(body, row, bound):
    """The hull of what a body, a pair (scale, points), has at dots with the row up to the bound, a ratio.

    There are no points if nothing is left.
    """
    scale, points = body
    heights = [inner(row, point) * bound[1] - bound[0] * scale for point in points]
    if max(heights, default=0) <= 0:
        return body
    found = [(scale, point) for point, height in zip(points, heights) if height <= 0]
    for low, start in zip(heights, points):
        for high, stop in zip(heights, points):
            if low < 0 < high:
                found.append(scaled_down(scale * (high - low), minus(times(high, start), times(low, stop))))
    if len(found) == 0:
        return 1, []
    scale, points = told_together(found)
    return scale, extreme(points)
