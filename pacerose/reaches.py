"""How far one gets in a time, and the rose of a given reach."""

from pacerose.deals import deal_and_dam, right_deal
from pacerose.errors import BadEnds, BadTime, Endless
from pacerose.forms import are_rows_of, is_list, is_ratio, is_row_of
from pacerose.planar import cross, ring
from pacerose.roses import Rose, check_rose, check_scale, time_of, top
from pacerose.sectors import across_ahead, check_flat, told_rays
from pacerose.vectors import inner, minus, times, told_together, unit_row, zeros


def goals_around(size):
    """Each unit row and its negative: who gets to all of these gets anywhere."""
    goals = []
    for k in range(size):
        goals.extend([unit_row(size, k), times(-1, unit_row(size, k))])
    return goals


def spread_and_idle(rose):
    """The pair of a spread and None, or of None and an idle step."""
    deals = []
    for goal in goals_around(rose.size):
        deal, dammed = deal_and_dam(rose.rows, goal)
        if deal is None:
            return None, dammed
        deals.append(deal)
    return deals, None


def idle_step(rose):
    check_rose(rose)
    return spread_and_idle(rose)[1]


def spread(rose):
    check_rose(rose)
    return spread_and_idle(rose)[0]


def is_idle_step(rose, thing):
    check_rose(rose)
    return is_row_of(thing, rose.size) and thing != zeros(rose.size) and top(rose, thing) == 0


def is_spread(rose, thing):
    check_rose(rose)
    goals = goals_around(rose.size)
    if not is_list(thing) or len(thing) != len(goals):
        return False
    return all([right_deal(rose.rows, goal, deal) for goal, deal in zip(goals, thing)])


def reach(rose, time):
    check_rose(rose)
    if not is_ratio(time) or time[0] <= 0:
        raise BadTime("a time is a ratio above 0")
    check_flat(rose)
    if spread_and_idle(rose)[1] is not None:
        raise Endless("there is an idle step")
    points = []
    for ray in told_rays(rose):
        above, below = time_of(rose, ray)
        points.append((time[1] * above, times(time[0] * below, ray)))
    return told_together(points)


def is_around(corners):
    """Whether zeros lies within the ring, not on its rim."""
    return all([cross(start, stop) > 0 for start, stop in zip(corners, corners[1:] + corners[:1])])


def rose_of_reach(scale, ends):
    check_scale(scale)
    if not are_rows_of(ends, 2) or len(ends) < 3 or not is_around(ring(ends)):
        raise BadEnds("ends are a list of steps with (0, 0) within their hull, not on its rim")
    corners = ring(ends)
    points = []
    for start, stop in zip(corners, corners[1:] + corners[:1]):
        row = across_ahead(minus(stop, start))
        points.append((inner(row, start), times(scale, row)))
    whole, rows = told_together(points)
    return Rose(2, whole, rows)
