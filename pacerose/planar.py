"""Points in the plane: the corners of their hull, one behind the other."""


def cross(one, other):
    return one[0] * other[1] - one[1] * other[0]


def bends_left(first, middle, last):
    ahead = (middle[0] - first[0], middle[1] - first[1])
    behind = (last[0] - middle[0], last[1] - middle[1])
    return cross(ahead, behind) > 0


def left_chain(points):
    chain = []
    for point in points:
        while len(chain) > 1 and not bends_left(chain[-2], chain[-1], point):
            chain.pop()
        chain.append(point)
    return chain


def ring(points):
    """The corners of the hull of the points, counterclockwise, the least one first."""
    ordered = sorted(set(points))
    if len(ordered) < 3:
        return ordered
    return left_chain(ordered)[:-1] + left_chain(ordered[::-1])[:-1]
