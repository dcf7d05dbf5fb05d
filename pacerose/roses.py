"""Roses: how long going takes in each direction."""

from pacerose.errors import BadRose, BadRows, BadScale, BadStep, BadSteps
from pacerose.forms import are_rows_of, is_row_of, is_scale
from pacerose.kinds import check_kind, check_size
from pacerose.shells import extreme
from pacerose.vectors import divisor, inner, led_by, lowest, plus, turned, zeros


def check_rose(rose):
    if not isinstance(rose, Rose):
        raise BadRose("this is no rose")


def check_scale(scale):
    if not is_scale(scale):
        raise BadScale("a scale is a number from 1 on")


def check_step(size, step):
    if not is_row_of(step, size):
        raise BadStep("a step is a row of size numbers")


def shared_divisor(scale, rows):
    return divisor([scale] + [divisor(row) for row in rows])


class Rose:
    """Rows over a scale in one form: just the corners of their hull with zeros, zeros left out."""

    def __init__(self, size, scale, rows):
        check_size(size)
        check_scale(scale)
        if not are_rows_of(rows, size):
            raise BadRows("rows are a list of rows of size numbers")
        nothing = zeros(size)
        kept = [row for row in extreme([nothing, *rows]) if row != nothing]
        # Without rows the scale itself is what divides, and 1 is left.
        shared = shared_divisor(scale, kept)
        self.size = size
        self.scale = scale // shared
        self.rows = tuple([tuple([number // shared for number in row]) for row in kept])

    def __eq__(self, other):
        if not isinstance(other, Rose):
            return False
        return self.size == other.size and self.scale == other.scale and self.rows == other.rows


def hull_corners(rose):
    """The ascending corners of the hull of the rose: zeros is one unless it is a middle of the rows."""
    return extreme([zeros(rose.size), *rose.rows])


def top(rose, step):
    """What going by a right step takes, times the scale."""
    return max([0] + [inner(row, step) for row in rose.rows])


def time_of(rose, step):
    return lowest(top(rose, step), rose.scale)


def going(rose, step):
    check_rose(rose)
    check_step(rose.size, step)
    return time_of(rose, step)


def leaders(corners, step):
    """Those of the corners whose dot with the step is the greatest."""
    worths = [inner(corner, step) for corner in corners]
    most = max(worths)
    return [corner for corner, worth in zip(corners, worths) if worth == most]


def leading(rose, step):
    check_rose(rose)
    check_step(rose.size, step)
    return leaders(hull_corners(rose), step)


def adds_up(rose, steps):
    check_rose(rose)
    if not are_rows_of(steps, rose.size):
        raise BadSteps("steps are a list of steps")
    whole = zeros(rose.size)
    for step in steps:
        whole = plus(whole, step)
    return top(rose, whole) == sum([top(rose, step) for step in steps])


def led_rows(table, rows):
    """The rows of the rose by which v takes what the led v takes by these rows."""
    columns = turned(table)
    return [led_by(columns, row) for row in rows]


def keeps_rose(kind, rose):
    if kind.size != rose.size:
        return False
    kept = list(rose.rows)
    return all([sorted(led_rows(table, rose.rows)) == kept for table in kind.tables])


def is_kept(kind, rose):
    check_kind(kind)
    check_rose(rose)
    return keeps_rose(kind, rose)
