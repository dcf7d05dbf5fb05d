"""Mixtures: what lies in the hull of rows and zeros; outer rows show what does not."""

from pacerose.deals import right_scale_and_counts, summed
from pacerose.errors import BadRow, BadRows, TooMany
from pacerose.forms import are_rows, is_row_beside, is_row_of
from pacerose.shells import extreme
from pacerose.simplex import deal_or_dam, sparse
from pacerose.vectors import inner, reduced, scaled_down, times, zeros


def check_rows(rows):
    if not are_rows(rows):
        raise BadRows("rows are a list of rows of one length")


def check_hull(rows, row):
    check_rows(rows)
    if not is_row_beside(row, rows):
        raise BadRow("the row is not as long as the rows")
    if len(rows) > 100:
        raise TooMany(100)


def mixture_and_outer(rows, row):
    """For right rows: the pair of a mixture and None, or of None and an outer row."""
    many = len(row)
    columns = [sparse((*part, 1)) for part in rows] + [[(many, 1)]]
    deal, dammed = deal_or_dam(columns, (*row, 1))
    if deal is None:
        return None, reduced(dammed[:many])
    # What is left of the scale goes to zeros, and zeros need no count.
    return scaled_down(deal[0], deal[1][:-1]), None


def right_mixture(rows, row, thing):
    if not right_scale_and_counts(thing, len(rows)):
        return False
    scale, counts = thing
    return sum(counts) <= scale and summed(counts, rows, len(row)) == times(scale, row)


def right_outer(rows, row, thing):
    if not is_row_of(thing, len(row)):
        return False
    most = max([0] + [inner(thing, part) for part in rows])
    return inner(thing, row) > most


def mixture(rows, row):
    check_hull(rows, row)
    return mixture_and_outer(rows, row)[0]


def outer(rows, row):
    check_hull(rows, row)
    return mixture_and_outer(rows, row)[1]


def is_mixture(rows, row, thing):
    check_hull(rows, row)
    return right_mixture(rows, row, thing)


def is_outer(rows, row, thing):
    check_hull(rows, row)
    return right_outer(rows, row, thing)


def kept_corners(rows):
    """The corners of rows of any length: one by one, each mixture of those that are left is left out."""
    left = rows
    for row in rows:
        others = [other for other in left if other != row]
        if mixture_and_outer(others, row)[0] is not None:
            left = others
    return left


def corners(rows):
    check_rows(rows)
    if len(rows) > 100:
        raise TooMany(100)
    if len(rows) == 0:
        return ()
    nothing = zeros(len(rows[0]))
    if len(nothing) <= 3:
        return tuple([row for row in extreme([nothing, *rows]) if row != nothing])
    return tuple(kept_corners(sorted(set([row for row in rows if row != nothing]))))
