"""How many times as long as another trip one trip can take at most."""

from pacerose.claims import rose_of_dam
from pacerose.shares import check_two_trips, share_columns, share_goal, shares_and_dam
from pacerose.simplex import solved
from pacerose.trips import many_times
from pacerose.vectors import lowest


def search(kind, one, other):
    """The least factor with which shares of one are found in other, as an answer of the search for it."""
    below = kind.size * len(one)
    columns = share_columns(kind, one, other)
    costs = [0] * len(columns) + [1]
    columns.append([(below + j, -count) for j, (_, count) in enumerate(other)])
    return solved(columns, costs, share_goal(one, [0] * len(other)))


def factor_of(found):
    """The factor that an answer of the search tells; None if there is none."""
    if found[0] == "none":
        return None
    scale, counts = found[1]
    return lowest(counts[-1], scale)


def least_factor(kind, one, other):
    check_two_trips(kind, one, other)
    if len(one) == 0:
        return 0, 1
    return factor_of(search(kind, one, other))


def factor_shares(kind, one, other):
    check_two_trips(kind, one, other)
    if len(one) == 0:
        return 1, ()
    factor = factor_of(search(kind, one, other))
    if factor is None:
        return None
    above, below = factor
    return shares_and_dam(kind, many_times(one, below), many_times(other, above))[0]


def factor_rose(kind, one, other):
    check_two_trips(kind, one, other)
    if len(one) == 0:
        return None
    found = search(kind, one, other)
    prices = found[1] if found[0] == "none" else found[2][1]
    return rose_of_dam(kind, len(one), prices)
