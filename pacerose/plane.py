"""The plane: hulls of roses as polygons, and the fields of closed trips."""

from pacerose.errors import NotClosed
from pacerose.planar import cross, ring
from pacerose.roses import check_rose, hull_corners
from pacerose.sectors import check_flat, is_later
from pacerose.sides import around, steps_around
from pacerose.trips import check_trip, end, gathered
from pacerose.vectors import lowest, minus, plus, times


def check_flat_rose(rose):
    check_rose(rose)
    check_flat(rose)


def polygon_of(rose):
    return ring(hull_corners(rose))


def whole_area(points):
    return sum([cross(start, stop) for start, stop in around(points)])


def polygon(rose):
    check_flat_rose(rose)
    return tuple(polygon_of(rose))


def edges(rose):
    check_flat_rose(rose)
    return tuple(steps_around(polygon_of(rose)))


def double_area(rose):
    check_flat_rose(rose)
    return lowest(whole_area(polygon_of(rose)), rose.scale * rose.scale)


def check_closed(trip):
    check_trip(2, trip)
    reached = end(2, trip)
    if reached != (0, 0):
        raise NotClosed(reached)


def ordered_around(trip):
    """The steps as long as they count, each put where it comes going around."""
    found = []
    for step, count in trip:
        ahead = [other for other in found if is_later(step, other)]
        found = ahead + [times(count, step)] + found[len(ahead):]
    return found


def field_of(trip):
    """The corners of the field of a closed trip, round."""
    points, reached = [], (0, 0)
    for step in ordered_around(trip):
        points.append(reached)
        reached = plus(reached, step)
    if len(points) == 0:
        return [(0, 0)]
    first = min(points)
    at = points.index(first)
    return [minus(point, first) for point in points[at:] + points[:at]]


def field(trip):
    check_closed(trip)
    return tuple(field_of(trip))


def field_area(trip):
    check_closed(trip)
    return whole_area(field_of(trip))


def border(rose):
    check_flat_rose(rose)
    return gathered([((down, -right), 1) for right, down in steps_around(polygon_of(rose))])
