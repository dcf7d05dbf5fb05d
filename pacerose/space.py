"""What holds for sticks but not in space, and whether a rose of any size is the sum of two others.

If zeros is a corner of the hull, the edges of a part are those of the hull, each some number of times as long:
this number is its factor. Around each side the edges of the part lead back to where they began.
"""

from pacerose.forms import is_pair
from pacerose.kinds import check_size
from pacerose.roses import Rose, check_rose, check_step, hull_corners, top
from pacerose.shells import space_cross
from pacerose.sides import around, sides, steps_around
from pacerose.simplex import deal_or_dam, sparse
from pacerose.solutions import any_solution
from pacerose.sums import added, rose_times
from pacerose.trips import gathered
from pacerose.vectors import inner, lowest, minus, plus, reduced, times, zeros


def hlawka(size, x, y, z):
    check_size(size)
    for step in (x, y, z):
        check_step(size, step)
    whole = plus(plus(x, y), z)
    pairs = gathered([(plus(x, y), 1), (plus(y, z), 1), (plus(z, x), 1)])
    return pairs, gathered([(x, 1), (y, 1), (z, 1), (whole, 1)])


def hlawka_bar(x, y, z):
    for step in (x, y, z):
        check_step(3, step)
    # By each of these, one of the steps makes the determinant and the others make 0.
    duals = [space_cross(y, z), space_cross(z, x), space_cross(x, y)]
    if inner(duals[0], x) == 0:
        return None
    whole = plus(plus(duals[0], duals[1]), duals[2])
    told = reduced([number for dual in duals for number in minus(whole, times(2, dual))])
    rows = [tuple(told[3 * k:3 * k + 3]) for k in range(3)]
    return Rose(3, 1, rows + [times(-1, row) for row in rows])


def moved_apart(rose, corners):
    """Two halves of a rose, moved apart: zeros is a middle of others and so within both."""
    scale, counts = deal_or_dam([sparse((*corner, 1)) for corner in corners], (*zeros(rose.size), 1))[0]
    at = [k for k, count in enumerate(counts) if count > 0][0]
    rest = scale - counts[at]
    ahead = times(min(rest, counts[at]), corners[at])
    wide = [times(rest, corner) for corner in corners]
    unit = 2 * rest * rose.scale
    halves = [Rose(rose.size, unit, [plus(corner, ahead) for corner in wide])]
    return halves[0], Rose(rose.size, unit, [minus(corner, ahead) for corner in wide])


def edge_of(start, stop):
    return (start, stop) if start < stop else (stop, start)


def labelled_edges(rings):
    """A number for each edge: edges around one triangle have equal factors, so they get equal numbers."""
    labels = {}
    for ring in rings:
        for start, stop in around(ring):
            labels.setdefault(edge_of(start, stop), len(labels))
    for ring in rings:
        if len(ring) == 3:
            told = [labels[edge_of(start, stop)] for start, stop in around(ring)]
            labels = {edge: told[0] if labels[edge] in told else labels[edge] for edge in labels}
    return labels


def closing_lines(rings, labels, kept):
    """For each side and each axis how much the edges of each of the kept labels lead along the axis."""
    lines = []
    for ring in rings:
        told = [labels[edge_of(start, stop)] for start, stop in around(ring)]
        for k in range(len(ring[0])):
            line = [0] * len(kept)
            for label, step in zip(told, steps_around(ring)):
                if label in kept:
                    line[kept[label]] += step[k]
            lines.append(line)
    return lines


def unlike_factors(rings):
    """For each edge a factor from 0 on, not all of them equal; None if there are none."""
    labels = labelled_edges(rings)
    found = sorted(set([labels[edge] for edge in labels]))
    # What is equal all over may be taken away: so the first label may get 0.
    kept = {label: k for k, label in enumerate(found[1:])}
    told = any_solution(closing_lines(rings, labels, kept), len(kept))
    if told is None:
        return None
    least = min([0] + told)
    return {edge: told[kept[labels[edge]]] - least if labels[edge] in kept else -least for edge in labels}


def placed_corners(factors, start):
    """Where the corners come if the edges are gone from the start on, each times its factor."""
    found, waiting = {start: start}, [start]
    while len(waiting) > 0:
        corner = waiting.pop()
        for edge in factors:
            if corner in edge:
                far = edge[1] if edge[0] == corner else edge[0]
                if far not in found:
                    found[far] = plus(found[corner], times(factors[edge], minus(far, corner)))
                    waiting.append(far)
    return found


def two_parts(rose):
    check_rose(rose)
    if len(rose.rows) == 0:
        return None
    corners, nothing = hull_corners(rose), zeros(rose.size)
    if nothing not in corners:
        return moved_apart(rose, corners)
    factors = unlike_factors(sides(corners))
    if factors is None:
        return None
    most = max([factors[edge] for edge in factors])
    found = placed_corners(factors, nothing)
    here = [found[corner] for corner in corners]
    there = [minus(times(most, corner), found[corner]) for corner in corners]
    return Rose(rose.size, most * rose.scale, here), Rose(rose.size, most * rose.scale, there)


def is_multiple(part, rose):
    if len(part.rows) == 0 or len(rose.rows) == 0:
        return len(part.rows) == 0
    # By its own row as a step the rose takes some time.
    step = rose.rows[0]
    return rose_times(rose, lowest(top(part, step) * rose.scale, top(rose, step) * part.scale)) == part


def is_two_parts(rose, thing):
    check_rose(rose)
    if not is_pair(thing) or not all([isinstance(part, Rose) and part.size == rose.size for part in thing]):
        return False
    return added(thing[0], thing[1]) == rose and not any([is_multiple(part, rose) for part in thing])
