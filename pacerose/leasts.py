"""The deal of least cost, with prices that show that none costs less."""

from pacerose.deals import check_columns_and_goal, deal_and_dam, right_dam, right_deal, summed
from pacerose.errors import BadCosts, TooMany
from pacerose.forms import are_counts, is_list, is_number, is_pair, is_row_of, is_scale
from pacerose.simplex import solved, sparse
from pacerose.vectors import divisor, inner, zeros


def check_least(columns, costs, goal):
    check_columns_and_goal(columns, goal)
    if not is_list(costs) or len(costs) != len(columns) or not all([is_number(cost) for cost in costs]):
        raise BadCosts("costs are a list of a number for each column")
    if len(columns) > 400:
        raise TooMany(400)


def least_deal(columns, costs, goal):
    check_least(columns, costs, goal)
    return solved([sparse(column) for column in columns], costs, goal)


def right_endless(columns, costs, goal, counts):
    """Counts may be lowered for ever only from a deal: so there has to be one."""
    if not are_counts(counts, len(columns)) or divisor(counts) != 1 or inner(counts, costs) >= 0:
        return False
    if summed(counts, columns, len(goal)) != zeros(len(goal)):
        return False
    return deal_and_dam(columns, goal)[0] is not None


def right_prices(columns, costs, goal, thing):
    if not is_pair(thing) or not is_scale(thing[0]) or not is_row_of(thing[1], len(goal)):
        return False
    scale, row = thing
    if divisor((scale, *row)) != 1:
        return False
    return all([inner(row, column) <= scale * cost for column, cost in zip(columns, costs)])


def right_least(columns, costs, goal, deal, prices):
    if not right_deal(columns, goal, deal) or not right_prices(columns, costs, goal, prices):
        return False
    return inner(prices[1], goal) * deal[0] == inner(deal[1], costs) * prices[0]


def is_told_least(columns, costs, goal, thing):
    check_least(columns, costs, goal)
    if not isinstance(thing, tuple) or len(thing) < 2 or not isinstance(thing[0], str):
        return False
    if thing[0] == "none":
        return len(thing) == 2 and right_dam(columns, goal, thing[1])
    if thing[0] == "endless":
        return len(thing) == 2 and right_endless(columns, costs, goal, thing[1])
    return thing[0] == "least" and len(thing) == 3 and right_least(columns, costs, goal, thing[1], thing[2])
