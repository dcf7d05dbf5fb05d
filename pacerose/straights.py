"""Paths that are as quick as going straight, and the ties that nobody needs."""

from pacerose.errors import OtherPlaces
from pacerose.flows import check_ends, check_joined, check_unlike, shares_and_bar
from pacerose.kinds import check_kind
from pacerose.nets import (Net, all_paths, check_kind_and_net, check_net, check_place, check_sizes, straight_trip,
                           trip_of_path, untied)


def first_straight(net, first, last):
    trip = straight_trip(net, first, last)
    for path in all_paths(net, first, last):
        if trip_of_path(net, path) == trip:
            return path
    return None


def straight_path(net, first, last):
    check_ends(net, first, last)
    return first_straight(net, first, last)


def bend(kind, net, first, last):
    """A rose in which each path takes longer than going straight; None if there is none."""
    return shares_and_bar(kind, net, first, last, straight_trip(net, first, last))[1]


def check_detour(kind, net, first, last):
    check_kind_and_net(kind, net)
    check_place(net, first)
    check_place(net, last)
    check_sizes(kind, net)
    check_unlike(first, last)
    check_joined(net, first, last)


def bending_rose(kind, net, first, last):
    check_detour(kind, net, first, last)
    return bend(kind, net, first, last)


def told_needless(net):
    return [tie for tie in net.ties if first_straight(untied(net, tie), *tie) is not None]


def needless(net):
    check_net(net)
    return told_needless(net)


def trimmed(net):
    check_net(net)
    gone = told_needless(net)
    return Net(net.size, net.places, [tie for tie in net.ties if tie not in gone])


def check_both_places(one, other):
    check_sizes(one, other)
    if one.places != other.places:
        raise OtherPlaces("the nets have other places")


def check_two_nets(one, other):
    check_net(one)
    check_net(other)
    check_both_places(one, other)


def straight_paths(one, other):
    """For each tie of other the first straight path of one, None where there is none."""
    return {tie: first_straight(one, *tie) for tie in other.ties}


def follows(one, other):
    check_two_nets(one, other)
    return None not in list(straight_paths(one, other).values())


def follow_paths(one, other):
    check_two_nets(one, other)
    found = straight_paths(one, other)
    return None if None in list(found.values()) else found


def check_kind_and_nets(kind, one, other):
    check_kind(kind)
    check_net(one)
    check_net(other)
    check_sizes(kind, one)
    check_both_places(one, other)


def follow_bar(kind, one, other):
    check_kind_and_nets(kind, one, other)
    found = straight_paths(one, other)
    for tie in found:
        if found[tie] is None:
            return tie, bend(kind, one, *tie)
    return None
