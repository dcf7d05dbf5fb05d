"""Sums of roses, the slower of two, and what a kind makes of a rose."""

from pacerose.errors import BadRatio, BadTable, OtherSize
from pacerose.forms import is_number, is_pair, is_ratio, is_row_of, is_table_of
from pacerose.kinds import check_kind
from pacerose.roses import Rose, check_rose, hull_corners, led_rows, top
from pacerose.vectors import led_by, plus, times
from pacerose.ways import blends_and_slower, check_two_roses


def check_kind_and_rose(kind, rose):
    check_kind(kind)
    check_rose(rose)
    if kind.size != rose.size:
        raise OtherSize("the kind and the rose are of unlike sizes")


def added(one, other):
    """The sum of two roses of one size."""
    here = [times(other.scale, corner) for corner in hull_corners(one)]
    there = [times(one.scale, corner) for corner in hull_corners(other)]
    return Rose(one.size, one.scale * other.scale, [plus(left, right) for left in here for right in there])


def greater(one, other):
    rows = [times(other.scale, row) for row in one.rows] + [times(one.scale, row) for row in other.rows]
    return Rose(one.size, one.scale * other.scale, rows)


def led_rose(rose, table):
    return Rose(rose.size, rose.scale, led_rows(table, rose.rows))


def rose_sum(one, other):
    check_two_roses(one, other)
    return added(one, other)


def rose_greater(one, other):
    check_two_roses(one, other)
    return greater(one, other)


def rose_times(rose, ratio):
    check_rose(rose)
    if not is_ratio(ratio) or ratio[0] < 0:
        raise BadRatio("this is no ratio from 0 on")
    return Rose(rose.size, rose.scale * ratio[1], [times(ratio[0], row) for row in rose.rows])


def rose_led(rose, table):
    check_rose(rose)
    if not is_table_of(table, rose.size):
        raise BadTable("this is no table of the size of the rose")
    return led_rose(rose, table)


def rose_kept(kind, rose):
    check_kind_and_rose(kind, rose)
    rows = []
    for table in kind.tables:
        rows.extend(led_rows(table, rose.rows))
    return Rose(rose.size, rose.scale, rows)


def rose_round(kind, rose):
    check_kind_and_rose(kind, rose)
    whole = Rose(rose.size, 1, [])
    for table in kind.tables:
        whole = added(whole, led_rose(rose, table))
    return whole


def first_changed(kind, rose):
    """The first table that does not keep the rose, with what it makes of it; None if all keep it."""
    for k, table in enumerate(kind.tables):
        changed = led_rose(rose, table)
        if changed != rose:
            return k, changed
    return None


def unkept(kind, rose):
    check_kind_and_rose(kind, rose)
    found = first_changed(kind, rose)
    if found is None:
        return None
    # If it were nowhere slower, it would be so again and again, until some power of the table is the unit.
    return found[0], blends_and_slower(found[1], rose)[1]


def is_unkept(kind, rose, thing):
    check_kind_and_rose(kind, rose)
    if not is_pair(thing) or not is_number(thing[0]) or not is_row_of(thing[1], rose.size):
        return False
    k, step = thing
    return 0 <= k < len(kind) and top(rose, led_by(kind.tables[k], step)) != top(rose, step)
