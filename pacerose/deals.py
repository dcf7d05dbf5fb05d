"""Deals: sums of columns that make a goal; dams show that there is none."""

from pacerose.errors import BadColumns, BadGoal, TooMany
from pacerose.forms import are_counts, are_rows, is_pair, is_row_beside, is_row_of, is_scale
from pacerose.simplex import deal_or_dam, sparse
from pacerose.vectors import divisor, inner, times


def check_columns_and_goal(columns, goal):
    if not are_rows(columns):
        raise BadColumns("columns are a list of rows of one length")
    if not is_row_beside(goal, columns):
        raise BadGoal("a goal is a row as long as the columns")


def check_deal(columns, goal):
    check_columns_and_goal(columns, goal)
    if len(columns) > 400:
        raise TooMany(400)


def summed(counts, rows, many):
    """The sum of the counts times the rows, of so many numbers."""
    return tuple([sum([count * row[k] for count, row in zip(counts, rows)]) for k in range(many)])


def right_scale_and_counts(thing, many):
    if not is_pair(thing) or not is_scale(thing[0]) or not are_counts(thing[1], many):
        return False
    return divisor((thing[0], *thing[1])) == 1


def right_deal(columns, goal, thing):
    if not right_scale_and_counts(thing, len(columns)):
        return False
    return summed(thing[1], columns, len(goal)) == times(thing[0], goal)


def right_dam(columns, goal, thing):
    if not is_row_of(thing, len(goal)):
        return False
    return inner(thing, goal) > 0 and all([inner(thing, column) <= 0 for column in columns])


def deal_and_dam(columns, goal):
    """For right columns and a right goal: the pair of a deal and None, or of None and a dam."""
    return deal_or_dam([sparse(column) for column in columns], goal)


def dealt(columns, goal):
    check_deal(columns, goal)
    return deal_and_dam(columns, goal)[0]


def dam(columns, goal):
    check_deal(columns, goal)
    return deal_and_dam(columns, goal)[1]


def is_deal(columns, goal, thing):
    check_deal(columns, goal)
    return right_deal(columns, goal, thing)


def is_dam(columns, goal, thing):
    check_deal(columns, goal)
    return right_dam(columns, goal, thing)
