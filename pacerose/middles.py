"""Weighted middles of roses, by few rows.

A row that leads for a step in each of the roses leads for it in their middle, too. So rows for some steps are
enough for all of these steps to take just what the weighted roses take together.
"""

from math import lcm

from pacerose.roses import Rose, led_rows
from pacerose.vectors import inner, plus, times, zeros


def leader(rose, step):
    """A row that makes going by the step take what it takes; zeros if that is nothing."""
    worths = [inner(row, step) for row in rose.rows]
    most = max(worths, default=0)
    return rose.rows[worths.index(most)] if most > 0 else zeros(rose.size)


def turned_rows(kind, rows):
    """All that the tables make of the rows."""
    found = []
    for table in kind.tables:
        found.extend(led_rows(table, rows))
    return found


def middle(kind, steps, weighted):
    """A rose that the kind keeps by which each of the steps takes what the weighted roses make of it together.

    They are a list of pairs (weight, rose), the weights ratios from 0 on, the roses such that the kind keeps.
    """
    unit = 1
    for weight, rose in weighted:
        unit = lcm(unit, weight[1] * rose.scale)
    rows = []
    for step in steps:
        row = zeros(kind.size)
        for weight, rose in weighted:
            part = times(weight[0] * (unit // (weight[1] * rose.scale)), leader(rose, step))
            row = plus(row, part)
        rows.append(row)
    return Rose(kind.size, unit, turned_rows(kind, rows))
