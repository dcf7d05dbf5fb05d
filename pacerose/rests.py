"""What is left of a rose if a part of it is taken away.

Near a step for which one corner of the whole and one of the part lead alone, what is left is told by the
difference of both corners. If there is a rest, these differences are its rows; otherwise going by one of them
somewhere takes longer than what is left, and there the flaw is found.
"""

from pacerose.forms import is_row_of
from pacerose.roses import Rose, hull_corners, leaders, top
from pacerose.simplex import deal_or_dam, sparse
from pacerose.sums import added
from pacerose.vectors import inner, minus, plus, times
from pacerose.ways import blends_and_slower, check_two_roses


def own_step(corners, corner):
    """A step for which this one of the corners leads alone."""
    columns = [sparse((*other, 1)) for other in corners if other != corner]
    return deal_or_dam(columns, (*corner, 1))[1][:len(corner)]


def enough(corners, corner, far, step):
    """The least number from 0 on of times far that, with step, this corner leads for: it is a leader for far."""
    most = 0
    for other in corners:
        apart = minus(corner, other)
        gap = inner(apart, far)
        if gap > 0:
            most = max(most, -(inner(apart, step) // gap))
    return most


def both_enough(wholes, parts, tangent, far, step):
    return max(enough(wholes, tangent[0], far, step), enough(parts, tangent[1], far, step))


def tangent_at(wholes, parts, corner):
    """The pair of both corners that lead alone near where this one of the wholes does, and a step that shows it."""
    far = own_step(wholes, corner)
    ahead = leaders(parts, far)
    pair = (corner, ahead[0])
    if len(ahead) == 1:
        return pair, far
    near = own_step(parts, ahead[0])
    number = both_enough(wholes, parts, pair, far, near) + 1
    return pair, plus(times(number, far), near)


class Taking:
    """Whole and part with one scale, and what is left near each corner of the whole."""

    def __init__(self, whole, part):
        self.wholes = [times(part.scale, corner) for corner in hull_corners(whole)]
        self.parts = [times(whole.scale, corner) for corner in hull_corners(part)]
        self.tangents = [tangent_at(self.wholes, self.parts, corner) for corner in self.wholes]
        self.rows = [minus(pair[0], pair[1]) for pair, _ in self.tangents]
        self.rose = Rose(whole.size, whole.scale * part.scale, self.rows)

    def bent_at(self, step):
        """A flaw, from a step that some row takes longer than what is left."""
        worths = [inner(row, step) for row in self.rows]
        pair, far = self.tangents[worths.index(max(worths))]
        number = both_enough(self.wholes, self.parts, pair, far, step)
        return "bent", times(number, far), step


def rest(whole, part):
    check_two_roses(whole, part)
    told = Taking(whole, part).rose
    return told if added(told, part) == whole else None


def rest_flaw(whole, part):
    check_two_roses(whole, part)
    below = blends_and_slower(part, whole)[1]
    if below is not None:
        return "below", below
    taking = Taking(whole, part)
    step = blends_and_slower(added(taking.rose, part), whole)[1]
    return None if step is None else taking.bent_at(step)


def left_by(whole, part, step):
    """What is left of going by the step, times both scales."""
    return top(whole, step) * part.scale - top(part, step) * whole.scale


def is_rest_flaw(whole, part, thing):
    check_two_roses(whole, part)
    if not isinstance(thing, tuple) or not 2 <= len(thing) <= 3 or not isinstance(thing[0], str):
        return False
    if not all([is_row_of(step, whole.size) for step in thing[1:]]):
        return False
    if len(thing) == 2:
        return thing[0] == "below" and left_by(whole, part, thing[1]) < 0
    first, last = thing[1:]
    bend = left_by(whole, part, first) + left_by(whole, part, last) - left_by(whole, part, plus(first, last))
    return thing[0] == "bent" and bend < 0
