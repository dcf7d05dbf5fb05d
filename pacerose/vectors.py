"""Sums of rows and tables that are known to be right: nothing is checked here."""

from math import gcd, lcm


def inner(one, other):
    return sum([here * there for here, there in zip(one, other)])


def plus(one, other):
    return tuple([here + there for here, there in zip(one, other)])


def minus(one, other):
    return tuple([here - there for here, there in zip(one, other)])


def times(number, row):
    return tuple([number * part for part in row])


def zeros(many):
    return (0,) * many


def unit_row(many, index):
    return tuple([1 if k == index else 0 for k in range(many)])


def unit_table(many):
    return tuple([unit_row(many, index) for index in range(many)])


def divisor(row):
    """The greatest number that divides all numbers of the row; 0 if all are 0."""
    found = 0
    for number in row:
        found = gcd(found, number)
    return found


def reduced(row):
    """The row divided by the greatest number that divides all of it."""
    shared = divisor(row)
    return tuple(row) if shared < 2 else tuple([number // shared for number in row])


def scaled_down(scale, row):
    """The pair of the scale and the row, without a common divisor."""
    told = reduced((scale, *row))
    return told[0], told[1:]


def told_together(points):
    """Pairs (scale, point) with one scale for all, in lowest terms: the pair of it and the list of points."""
    whole = 1
    for below, _ in points:
        whole = lcm(whole, below)
    wide = [times(whole // scale, point) for scale, point in points]
    shared = divisor([whole] + [divisor(point) for point in wide])
    return whole // shared, [tuple([number // shared for number in point]) for point in wide]


def led_by(table, row):
    return tuple([inner(line, row) for line in table])


def turned(table):
    """The table with its lines as columns."""
    return tuple(list(zip(*table)))


def made_product(one, other):
    columns = turned(other)
    return tuple([tuple([inner(line, column) for column in columns]) for line in one])


def made_determinant(table):
    """By the first line: tables here have at most six rows."""
    if len(table) == 1:
        return table[0][0]
    total = 0
    for k, number in enumerate(table[0]):
        if number != 0:
            part = made_determinant(tuple([row[:k] + row[k + 1:] for row in table[1:]]))
            total = total - number * part if k & 1 else total + number * part
    return total


def lowest(above, below):
    """The ratio that is above / below; below is not 0."""
    shared = gcd(above, below)
    if below < 0:
        shared = -shared
    return above // shared, below // shared


def compare(one, other):
    """Below 0, 0 or above 0: how the first ratio stands to the second one."""
    return one[0] * other[1] - other[0] * one[1]
