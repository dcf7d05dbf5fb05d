"""Whole numbers that have the dot 0 with each of some lines of numbers."""

from math import lcm

from pacerose.vectors import reduced


def without(line, at, lead):
    """The line, freed of the unknown at the index by as much of the lead as it takes; there the lead is above 0."""
    factor = line[at]
    if factor == 0:
        return line
    return reduced([lead[at] * here - factor * there for here, there in zip(line, lead)])


def first_other(line):
    """The index of the first number that is not 0; None if all are."""
    for at, number in enumerate(line):
        if number != 0:
            return at
    return None


def leads_of(lines):
    """For some of the unknowns a line each, above 0 there, in which no other one of these unknowns is left."""
    leads = {}
    for line in lines:
        told = line
        for at in leads:
            told = without(told, at, leads[at])
        first = first_other(told)
        if first is not None:
            lead = told if told[first] > 0 else [-number for number in told]
            leads = {at: without(leads[at], first, lead) for at in leads}
            leads[first] = lead
    return leads


def any_solution(lines, many):
    """So many whole numbers, not all 0, that have the dot 0 with each line; None if there are none."""
    leads = leads_of(lines)
    free = [at for at in range(many) if at not in leads]
    if len(free) == 0:
        return None
    numbers, whole = [0] * many, 1
    for at in leads:
        whole = lcm(whole, leads[at][at])
    numbers[free[0]] = whole
    for at in leads:
        numbers[at] = -leads[at][free[0]] * (whole // leads[at][at])
    return numbers
