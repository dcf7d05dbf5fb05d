"""What a rose holds, and which of two roses is never slower."""

from pacerose.errors import BadRow, OtherSize
from pacerose.forms import is_row_of
from pacerose.hulls import mixture_and_outer, right_mixture
from pacerose.roses import check_rose, check_scale, top
from pacerose.vectors import inner, times


def check_way(rose, scale, row):
    check_rose(rose)
    check_scale(scale)
    if not is_row_of(row, rose.size):
        raise BadRow("the row is not as long as the steps of the rose")


def check_two_roses(one, other):
    check_rose(one)
    check_rose(other)
    if one.size != other.size:
        raise OtherSize("the roses are of unlike sizes")


def wide_rows(rose, scale):
    return [times(scale, row) for row in rose.rows]


def blend_and_beyond(rose, scale, row):
    """For a right row: the pair of a blend and None, or of None and a step beyond."""
    return mixture_and_outer(wide_rows(rose, scale), times(rose.scale, row))


def right_blend(rose, scale, row, thing):
    return right_mixture(wide_rows(rose, scale), times(rose.scale, row), thing)


def blend(rose, scale, row):
    check_way(rose, scale, row)
    return blend_and_beyond(rose, scale, row)[0]


def beyond(rose, scale, row):
    check_way(rose, scale, row)
    return blend_and_beyond(rose, scale, row)[1]


def is_blend(rose, scale, row, thing):
    check_way(rose, scale, row)
    return right_blend(rose, scale, row, thing)


def is_beyond(rose, scale, row, thing):
    check_way(rose, scale, row)
    return is_row_of(thing, rose.size) and inner(row, thing) * rose.scale > top(rose, thing) * scale


def blends_and_slower(one, other):
    """For roses of one size: the pair of blends and None, or of None and a step that takes longer by one."""
    found = {}
    for row in one.rows:
        told, step = blend_and_beyond(other, one.scale, row)
        if told is None:
            return None, step
        found[row] = told
    return found, None


def takes_longer(one, other, step):
    return top(one, step) * other.scale > top(other, step) * one.scale


def never_slower(one, other):
    check_two_roses(one, other)
    return blends_and_slower(one, other)[1] is None


def blends(one, other):
    check_two_roses(one, other)
    return blends_and_slower(one, other)[0]


def slower_step(one, other):
    check_two_roses(one, other)
    return blends_and_slower(one, other)[1]


def are_blends(one, other, thing):
    check_two_roses(one, other)
    if not isinstance(thing, dict) or len(thing) != len(one.rows):
        return False
    # Keys are asked for their kind first: (True, 0) as a key is equal to (1, 0).
    if not all([is_row_of(key, one.size) and key in one.rows for key in thing]):
        return False
    return all([right_blend(other, one.scale, row, thing[row]) for row in one.rows])


def is_slower_step(one, other, thing):
    check_two_roses(one, other)
    return is_row_of(thing, one.size) and takes_longer(one, other, thing)
