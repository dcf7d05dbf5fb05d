"""How much longer than going straight the best path of a net takes at most."""

from pacerose.errors import TooMany
from pacerose.flows import balance, flow_terms, right_flow, told_flow, trip_of_flow
from pacerose.forms import is_pair, is_ratio
from pacerose.kinds import check_size
from pacerose.nets import Net, all_paths, check_places, straight_trip, trip_of_path
from pacerose.quarrels import is_rose_here
from pacerose.searches import Search
from pacerose.shares import right_shares
from pacerose.straights import check_detour, check_kind_and_nets
from pacerose.trips import many_times, whole_time
from pacerose.vectors import compare, lowest, times


class DetourSearch:
    """How often the step has to be gone so that its images make the steps of a flow: as little as can be."""

    def __init__(self, kind, net, first, last):
        self.net = net
        terms = flow_terms(net)
        step = ((), straight_trip(net, first, last), balance(net, first, first))
        self.search = Search(kind, [*terms, step], ((), (), balance(net, first, last)))
        self.found = self.search.least([0] * len(terms) + [1])

    def told(self):
        if self.found[0] == "none":
            return None
        scale, counts = self.found[1]
        return lowest(counts[len(self.net.ties)], scale)

    def shares(self):
        if self.found[0] == "none":
            return None
        scale, counts = self.found[1]
        often, table = self.search.shares(0, counts)
        below = self.told()[1]
        return told_flow(self.net, scale, counts), (often, tuple([times(below, line) for line in table]))

    def rose(self):
        if self.found[0] == "none":
            return self.search.priced_rose(1, self.found[1])
        scale, prices = self.found[2]
        return self.search.priced_rose(scale, prices)


def detour(kind, net, first, last):
    check_detour(kind, net, first, last)
    return DetourSearch(kind, net, first, last).told()


def detour_shares(kind, net, first, last):
    check_detour(kind, net, first, last)
    return DetourSearch(kind, net, first, last).shares()


def detour_rose(kind, net, first, last):
    check_detour(kind, net, first, last)
    return DetourSearch(kind, net, first, last).rose()


def right_detour_shares(kind, net, first, last, told, thing):
    if not is_pair(thing) or not right_flow(net, first, last, thing[0]):
        return False
    flow, shares = thing
    straight = many_times(straight_trip(net, first, last), flow[0] * told[0])
    return right_shares(kind, many_times(trip_of_flow(net, flow), told[1]), straight, shares)


def right_detour_rose(kind, net, first, last, told, thing):
    if not is_rose_here(kind, [], thing):
        return False
    straight = whole_time(thing, straight_trip(net, first, last))
    least = min([whole_time(thing, trip_of_path(net, path)) for path in all_paths(net, first, last)])
    if told is None:
        return straight == 0 and least > 0
    return straight > 0 and least * told[1] >= straight * told[0]


def are_detour(kind, net, first, last, told, shares, rose):
    check_detour(kind, net, first, last)
    if told is None:
        return shares is None and right_detour_rose(kind, net, first, last, None, rose)
    if not is_ratio(told) or told[0] < 0 or not right_detour_shares(kind, net, first, last, told, shares):
        return False
    return right_detour_rose(kind, net, first, last, told, rose)


def between_ends(kind, one, tie):
    """The detour in one between the ends of a tie; None without a path, too."""
    return DetourSearch(kind, one, *tie).told()


def greatest_detour(kind, one, other):
    """The pair of the greatest detour between the ends of a tie, None for no detour, and of the first such tie."""
    found, worst = (0, 1), None
    for tie in other.ties:
        told = between_ends(kind, one, tie)
        if told is None:
            return None, tie
        if compare(told, found) > 0:
            found, worst = told, tie
    return found, worst


def net_detour(kind, one, other):
    check_kind_and_nets(kind, one, other)
    return greatest_detour(kind, one, other)[0]


def worst_tie(kind, one, other):
    check_kind_and_nets(kind, one, other)
    return greatest_detour(kind, one, other)[1]


def full_net(size, places):
    check_size(size)
    check_places(places, size)
    many = len(places)
    if many * (many - 1) > 12:
        raise TooMany(12)
    return Net(size, places, [(first, last) for first in range(many) for last in range(many) if first != last])
