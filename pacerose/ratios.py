"""Ratios: pairs (above, below) without a common divisor, below from 1 on."""

from pacerose.errors import BadNumber, BadRatio
from pacerose.forms import is_number, is_ratio
from pacerose.vectors import compare, lowest


def check_ratio(thing):
    if not is_ratio(thing):
        raise BadRatio("a ratio is a pair of numbers in lowest terms, the second one from 1 on")


def ratio(above, below):
    if not is_number(above):
        raise BadNumber("above")
    if not is_number(below) or below == 0:
        raise BadNumber("below")
    return lowest(above, below)


def ratio_sum(one, other):
    check_ratio(one)
    check_ratio(other)
    return lowest(one[0] * other[1] + other[0] * one[1], one[1] * other[1])


def ratio_product(one, other):
    check_ratio(one)
    check_ratio(other)
    return lowest(one[0] * other[0], one[1] * other[1])


def ratio_below(one, other):
    check_ratio(one)
    check_ratio(other)
    return compare(one, other) < 0
