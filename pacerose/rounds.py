"""What holds for all winds: the wind is one step more."""

from pacerose.claims import bar, made_folded
from pacerose.kinds import check_size, mirror_kind
from pacerose.middles import leader
from pacerose.shares import right_shares, shares_and_dam
from pacerose.trips import check_trip, end, gathered
from pacerose.vectors import compare, minus
from pacerose.winds import Wind, total_of


def check_round(size, one, other):
    check_size(size)
    check_trip(size, one)
    check_trip(size, other)


def homeward(size, one, other):
    """The step from the end of other to that of one."""
    return minus(end(size, one), end(size, other))


def with_one_more(size, one, other):
    return gathered([*one, (homeward(size, one, other), 1)])


def one_more(size, one, other):
    check_round(size, one, other)
    return with_one_more(size, one, other)


def found_shares(size, one, other):
    return shares_and_dam(mirror_kind(size), with_one_more(size, one, other), other)[0]


def windy_shares(size, one, other):
    check_round(size, one, other)
    return found_shares(size, one, other)


def windy_bar(size, one, other):
    check_round(size, one, other)
    rose = bar(mirror_kind(size), with_one_more(size, one, other), other)
    # The wind blows so that the one step more is what the rose makes of it.
    return None if rose is None else Wind(rose, rose.scale, leader(rose, homeward(size, one, other)))


def right_windy_shares(size, one, other, thing):
    return right_shares(mirror_kind(size), with_one_more(size, one, other), other, thing)


def is_windy_shares(size, one, other, thing):
    check_round(size, one, other)
    return right_windy_shares(size, one, other, thing)


def is_windy_bar(size, one, other, thing):
    check_round(size, one, other)
    if not isinstance(thing, Wind) or thing.rose.size != size:
        return False
    return compare(total_of(thing, one), total_of(thing, other)) > 0


def compared_windy(size, one, other):
    check_round(size, one, other)
    kind = mirror_kind(size)
    if end(size, one) == end(size, other) and made_folded(kind, one) == made_folded(kind, other):
        return "alike"
    if found_shares(size, one, other) is not None:
        return "never longer"
    return "never shorter" if found_shares(size, other, one) is not None else "open"
