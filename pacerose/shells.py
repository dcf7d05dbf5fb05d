"""The corners of the hull of points on a line, in the plane or in space."""

from pacerose.planar import ring
from pacerose.vectors import inner, minus


def space_cross(one, other):
    return (one[1] * other[2] - one[2] * other[1],
            one[2] * other[0] - one[0] * other[2],
            one[0] * other[1] - one[1] * other[0])


class Shell:
    """The triangles of the hull of points in space that are not all in one plane.

    A face is (a, b, c, normal, height): three indexes of points, counterclockwise seen from outside, and its
    plane. Points beside each other in one plane may make several triangles; a point that lies in the plane of
    a face is never seen from it.
    """

    def __init__(self, points, first):
        self.points = points
        self.made = 0
        self.faces = {}
        self.sides = {}
        self.outside = {}
        a, b, c, d = first
        if self.volume(a, b, c, d) > 0:
            b, c = c, b
        numbers = [self.add_face(*face) for face in [(a, b, c), (a, c, d), (a, d, b), (b, d, c)]]
        self.share_out(numbers, [k for k in range(len(points)) if k not in first])
        self.grow(numbers)

    def volume(self, a, b, c, d):
        base = self.points[a]
        normal = space_cross(minus(self.points[b], base), minus(self.points[c], base))
        return inner(normal, minus(self.points[d], base))

    def add_face(self, a, b, c):
        base = self.points[a]
        normal = space_cross(minus(self.points[b], base), minus(self.points[c], base))
        number = self.made
        self.made = number + 1
        self.faces[number] = (a, b, c, normal, inner(normal, base))
        for side in [(a, b), (b, c), (c, a)]:
            self.sides[side] = number
        self.outside[number] = []
        return number

    def above(self, number, index):
        """How far the point is beyond the face: above 0 only if the face is seen from it."""
        _, _, _, (x, y, z), height = self.faces[number]
        point = self.points[index]
        return x * point[0] + y * point[1] + z * point[2] - height

    def share_out(self, numbers, indexes):
        """Give each point to the first of these faces that is seen from it; the others are within the hull."""
        for index in indexes:
            for number in numbers:
                if self.above(number, index) > 0:
                    self.outside[number].append(index)
                    break

    def grow(self, numbers):
        # A point belongs to the first face it sees and the last face is raised first: none that waits gets lost.
        waiting = list(numbers)
        while len(waiting) > 0:
            number = waiting.pop()
            if len(self.outside[number]) > 0:
                waiting.extend(self.raise_face(number))

    def seen_from(self, index, number):
        """The faces seen from the point, among them the one of this number, and the sides around them."""
        seen, rim, waiting = {number: True}, [], [number]
        while len(waiting) > 0:
            a, b, c, _, _ = self.faces[waiting.pop()]
            for start, stop in [(a, b), (b, c), (c, a)]:
                beside = self.sides[(stop, start)]
                if beside in seen:
                    continue
                if self.above(beside, index) > 0:
                    seen[beside] = True
                    waiting.append(beside)
                else:
                    rim.append((start, stop))
        return list(seen), rim

    def raise_face(self, number):
        """Take the farthest point outside of the face into the hull; the numbers of the new faces."""
        indexes = self.outside[number]
        heights = [self.above(number, index) for index in indexes]
        top = indexes[heights.index(max(heights))]
        seen, rim = self.seen_from(top, number)
        spare = []
        for gone in seen:
            spare.extend([index for index in self.outside[gone] if index != top])
            a, b, c, _, _ = self.faces[gone]
            for side in [(a, b), (b, c), (c, a)]:
                del self.sides[side]
            del self.faces[gone]
            del self.outside[gone]
        numbers = [self.add_face(start, stop, top) for start, stop in rim]
        self.share_out(numbers, spare)
        return numbers

    def corners(self):
        """The points at which three faces meet that are not all along one line."""
        around = {}
        for a, b, c, normal, _ in list(self.faces.values()):
            for index in [a, b, c]:
                around.setdefault(index, []).append(normal)
        return [self.points[index] for index in around if are_in_space(around[index])]


def are_in_space(rows):
    """Whether three of the rows are in no plane through zeros; none of the rows is zeros."""
    first = rows[0]
    normals = [space_cross(first, row) for row in rows]
    across = [normal for normal in normals if normal != (0, 0, 0)]
    return len(across) > 0 and any([inner(across[0], row) != 0 for row in rows])


def greatest_at(numbers):
    return numbers.index(max(numbers))


def flat_corners(points, normal):
    """Of points in one plane: seen along an axis that is not within it, they stay apart."""
    axis = greatest_at([abs(number) for number in normal])
    seen = {point[:axis] + point[axis + 1:]: point for point in points}
    return [seen[flat] for flat in ring(list(seen))]


def shell_start(points):
    """Of ascending different points in space: a normal across them, and the indexes of four that no plane holds.

    The normal is zeros if all points are on one line; if they are in one plane, there is None for the four.
    """
    low, high = points[0], points[-1]
    along = minus(high, low)
    crosses = [space_cross(along, minus(point, low)) for point in points]
    wide = greatest_at([inner(normal, normal) for normal in crosses])
    normal = crosses[wide]
    heights = [abs(inner(normal, minus(point, low))) for point in points]
    top = greatest_at(heights)
    return normal, None if heights[top] == 0 else (0, len(points) - 1, wide, top)


def space_corners(points):
    """Of ascending different points in space."""
    normal, first = shell_start(points)
    if normal == (0, 0, 0):
        return points[:1] if len(points) == 1 else [points[0], points[-1]]
    if first is None:
        return flat_corners(points, normal)
    return Shell(points, first).corners()


def extreme(points):
    """The ascending list of the corners of the hull of one or more points of one size."""
    ordered = sorted(set(points))
    size = len(ordered[0])
    if size == 1:
        return ordered if len(ordered) < 3 else [ordered[0], ordered[-1]]
    if size == 2:
        return sorted(ring(ordered))
    return sorted(space_corners(ordered))
