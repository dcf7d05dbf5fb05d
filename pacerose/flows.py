"""Flows: weighted sums of paths; they show whether some path of a net is always as quick as a trip."""

from pacerose.errors import BadFlow, BadPair, NoPath
from pacerose.forms import is_pair, is_scale
from pacerose.nets import (all_paths, check_kind_and_net, check_net, check_place, check_sizes, is_tie, straight_trip,
                           trip_of_path)
from pacerose.quarrels import is_rose_here
from pacerose.searches import Search
from pacerose.shares import right_shares
from pacerose.trips import check_trip, many_times, whole_time
from pacerose.facts import weighted_trip


def check_unlike(first, last):
    if first == last:
        raise BadPair("first and last are one place")


def check_joined(net, first, last):
    """The ascending paths from first to last."""
    found = all_paths(net, first, last)
    if len(found) == 0:
        raise NoPath("there is no path")
    return found


def check_ends(net, first, last):
    check_net(net)
    check_place(net, first)
    check_place(net, last)
    check_unlike(first, last)


def left_at(amounts, place):
    """What the ties from a place on have together, less what those to it have."""
    told = 0
    for here, after in amounts:
        if here == place:
            told += amounts[(here, after)]
        if after == place:
            told -= amounts[(here, after)]
    return told


def right_flow(net, first, last, thing):
    """Of any value, for unlike first and last."""
    if not is_pair(thing) or not is_scale(thing[0]) or not isinstance(thing[1], dict):
        return False
    scale, amounts = thing
    # Keys are asked for their kind first: (True, 0) as a key is equal to (1, 0).
    for tie in amounts:
        if not is_tie(tie, len(net.places)) or tie not in net.ties or not is_scale(amounts[tie]):
            return False
    wanted = {first: scale, last: -scale}
    return all([left_at(amounts, place) == wanted.get(place, 0) for place in range(len(net.places))])


def trip_of_flow(net, flow):
    amounts = flow[1]
    return weighted_trip([straight_trip(net, *tie) for tie in amounts], [amounts[tie] for tie in amounts])


def is_flow(net, first, last, thing):
    check_ends(net, first, last)
    return right_flow(net, first, last, thing)


def flow_trip(net, first, last, flow):
    check_ends(net, first, last)
    if not right_flow(net, first, last, flow):
        raise BadFlow("this is no flow from first to last")
    return trip_of_flow(net, flow)


def balance(net, first, last):
    """1 at first, -1 at last, 0 elsewhere."""
    return tuple([(1 if place == first else 0) - (1 if place == last else 0) for place in range(len(net.places))])


def flow_terms(net):
    """A term for each tie: how much goes by it is open; its step has to be made."""
    return [(straight_trip(net, *tie), (), balance(net, *tie)) for tie in net.ties]


def told_flow(net, scale, counts):
    return scale, {tie: count for tie, count in zip(net.ties, counts) if count > 0}


def shares_and_bar(kind, net, first, last, trip):
    """The pair of net shares and None, or of None and a net bar: without paths that bar is a rose, too."""
    search = Search(kind, flow_terms(net), ((), trip, balance(net, first, last)))
    deal, dammed = search.deal_or_dam()
    if deal is None:
        return None, search.priced_rose(1, dammed)
    return (told_flow(net, *deal), search.shares(*deal)), None


def check_within(kind, net, first, last, trip):
    check_kind_and_net(kind, net)
    check_place(net, first)
    check_place(net, last)
    check_trip(net.size, trip)
    check_sizes(kind, net)
    check_unlike(first, last)
    check_joined(net, first, last)


def net_shares(kind, net, first, last, trip):
    check_within(kind, net, first, last, trip)
    return shares_and_bar(kind, net, first, last, trip)[0]


def net_bar(kind, net, first, last, trip):
    check_within(kind, net, first, last, trip)
    return shares_and_bar(kind, net, first, last, trip)[1]


def right_net_shares(kind, net, first, last, trip, thing):
    if not is_pair(thing) or not right_flow(net, first, last, thing[0]):
        return False
    flow, told = thing
    return right_shares(kind, trip_of_flow(net, flow), many_times(trip, flow[0]), told)


def right_net_bar(kind, net, first, last, trip, thing):
    if not is_rose_here(kind, [], thing):
        return False
    time = whole_time(thing, trip)
    return all([whole_time(thing, trip_of_path(net, path)) > time for path in all_paths(net, first, last)])


def is_net_shares(kind, net, first, last, trip, thing):
    check_within(kind, net, first, last, trip)
    return right_net_shares(kind, net, first, last, trip, thing)


def is_net_bar(kind, net, first, last, trip, thing):
    check_within(kind, net, first, last, trip)
    return right_net_bar(kind, net, first, last, trip, thing)


def surely_within(kind, net, first, last, trip):
    check_within(kind, net, first, last, trip)
    return shares_and_bar(kind, net, first, last, trip)[1] is None
