"""The sides of hulls: the corners of each, one behind the other around it."""

from pacerose.planar import ring
from pacerose.shells import Shell, flat_corners, shell_start
from pacerose.vectors import minus, reduced, zeros


def space_sides(points):
    normal, first = shell_start(points)
    if normal == zeros(3):
        return [points]
    if first is None:
        return [flat_corners(points, normal)]
    # Triangles beside each other in one plane look in one direction: together they are a side.
    shell, found = Shell(points, first), {}
    for a, b, c, ahead, _ in list(shell.faces.values()):
        found.setdefault(reduced(ahead), []).extend([points[a], points[b], points[c]])
    return [flat_corners(found[ahead], ahead) for ahead in found]


def sides(points):
    """Of the ascending corners of a hull: its sides, or the hull itself if it is flat."""
    size = len(points[0])
    if size == 1:
        return [points]
    return [ring(points)] if size == 2 else space_sides(points)


def around(points):
    """Each of the points with the next one, the last one with the first; nothing for one point alone."""
    return list(zip(points, points[1:] + points[:1])) if len(points) > 1 else []


def steps_around(points):
    return [minus(stop, start) for start, stop in around(points)]
