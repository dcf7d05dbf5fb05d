"""The rays at which a rose of the plane turns from one corner to the next one."""

from pacerose.errors import BadStep, NotFlat
from pacerose.forms import is_row_of
from pacerose.planar import cross, ring
from pacerose.roses import check_rose, hull_corners
from pacerose.vectors import minus, plus, reduced, zeros


def check_flat(rose):
    if rose.size != 2:
        raise NotFlat("the rose is not of size 2")


def is_upper(ray):
    """Whether a ray is less than half a turn around."""
    return ray[1] > 0 or (ray[1] == 0 and ray[0] > 0)


def is_later(one, other):
    """Whether one comes behind other, going around."""
    if is_upper(one) != is_upper(other):
        return is_upper(other)
    return cross(other, one) > 0


def first_around(steps):
    """The index of the first one, going around."""
    first = 0
    for k, step in enumerate(steps):
        if is_later(steps[first], step):
            first = k
    return first


def edge_rays(corners):
    """For each edge of the ring the ray for which both its ends lead, with the end of the edge."""
    return [(across_ahead(minus(stop, start)), stop) for start, stop in zip(corners, corners[1:] + corners[:1])]


def across_ahead(edge):
    """The ray a quarter of a turn back from the edge: it points out of the hull."""
    return reduced((edge[1], -edge[0]))


def told_sectors(rose):
    if len(rose.rows) == 0:
        return []
    found = edge_rays(ring(hull_corners(rose)))
    first = first_around([ray for ray, _ in found])
    return found[first:] + found[:first]


def told_rays(rose):
    return [ray for ray, _ in told_sectors(rose)]


def rays(rose):
    check_rose(rose)
    check_flat(rose)
    return told_rays(rose)


def sectors(rose):
    check_rose(rose)
    check_flat(rose)
    return told_sectors(rose)


def sector_of(rose, step):
    check_rose(rose)
    if not is_row_of(step, rose.size) or step == zeros(rose.size):
        raise BadStep("this is no step that leads anywhere")
    check_flat(rose)
    found = told_rays(rose)
    if len(found) == 0:
        return None
    reached = [k for k, ray in enumerate(found) if not is_later(ray, step)]
    # Ahead of the first ray lies what is left of the last sector.
    return reached[-1] if len(reached) > 0 else len(found) - 1


def probes(rose):
    check_rose(rose)
    check_flat(rose)
    found = told_rays(rose)
    if len(found) == 0:
        return [(1, 0), (0, 1), (-1, 0), (0, -1)]
    if len(found) == 2:
        between = [(-ray[1], ray[0]) for ray in found]
    else:
        between = [reduced(plus(ray, after)) for ray, after in zip(found, found[1:] + found[:1])]
    told = []
    for ray, middle in zip(found, between):
        told.extend([ray, middle])
    first = first_around(told)
    return told[first:] + told[:first]
