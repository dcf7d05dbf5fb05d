"""Nets: places, some of them tied, and the quickest paths between them."""

from pacerose.errors import BadNet, BadPath, BadPlace, BadPlaces, BadTie, BadTies, OtherSize, TooMany
from pacerose.forms import is_index, is_list, is_pair, is_row_of
from pacerose.kinds import check_kind, check_size
from pacerose.roses import check_rose, top
from pacerose.trips import gathered, whole_time
from pacerose.vectors import lowest, minus


def right_places(thing, size):
    if not is_list(thing) or not 1 <= len(thing) <= 6 or not all([is_row_of(place, size) for place in thing]):
        return False
    return len(set(list(thing))) == len(thing)


def check_places(places, size):
    if not right_places(places, size):
        raise BadPlaces("places are a list of one to six different steps")


def is_tie(thing, many):
    """A pair of unlike numbers of so many places."""
    return is_pair(thing) and is_index(thing[0], many) and is_index(thing[1], many) and thing[0] != thing[1]


class Net:
    """Places and ties, each from one place straight to another one."""

    def __init__(self, size, places, ties):
        check_size(size)
        check_places(places, size)
        if not is_list(ties) or not all([is_tie(tie, len(places)) for tie in ties]):
            raise BadTies("ties are a list of pairs of unlike numbers of places")
        different = sorted(set(list(ties)))
        if len(different) > 12:
            raise TooMany(12)
        self.size = size
        self.places = tuple(places)
        self.ties = tuple(different)

    def __eq__(self, other):
        if not isinstance(other, Net):
            return False
        return self.size == other.size and self.places == other.places and self.ties == other.ties


def check_net(net):
    if not isinstance(net, Net):
        raise BadNet("this is no net")


def check_place(net, place):
    if not is_index(place, len(net.places)):
        raise BadPlace("this is no number of a place")


def check_tie(net, tie):
    if not is_tie(tie, len(net.places)):
        raise BadTie("a tie is a pair of unlike numbers of places")


def check_kind_and_net(kind, net):
    check_kind(kind)
    check_net(net)


def check_sizes(one, other):
    if one.size != other.size:
        raise OtherSize("the things are of unlike sizes")


def step_between(net, first, last):
    return minus(net.places[last], net.places[first])


def straight_trip(net, first, last):
    return gathered([(step_between(net, first, last), 1)])


def trip_of_path(net, path):
    return gathered([(step_between(net, here, after), 1) for here, after in zip(path, path[1:])])


def all_paths(net, first, last):
    """The ascending paths from first to last."""
    found, waiting = [], [(first,)]
    while len(waiting) > 0:
        path = waiting.pop()
        if path[-1] == last:
            found.append(path)
        else:
            waiting.extend([(*path, after) for here, after in net.ties if here == path[-1] and after not in path])
    return sorted(found)


def is_path(net, thing):
    """Of any value: whether it is a path from its first to its last number."""
    if not isinstance(thing, tuple) or not all([is_index(place, len(net.places)) for place in thing]):
        return False
    if len(thing) == 0 or len(set(list(thing))) < len(thing):
        return False
    return all([tie in net.ties for tie in zip(thing, thing[1:])])


def is_path_between(net, first, last, thing):
    return is_path(net, thing) and thing[0] == first and thing[-1] == last


def paths(net, first, last):
    check_net(net)
    check_place(net, first)
    check_place(net, last)
    return all_paths(net, first, last)


def path_trip(net, path):
    check_net(net)
    if not is_path(net, path):
        raise BadPath("this is no path of the net")
    return trip_of_path(net, path)


def check_quickest(net, rose, first):
    check_net(net)
    check_rose(rose)
    check_place(net, first)
    check_sizes(net, rose)


def best_paths(net, rose, first):
    """For each number to which a path from first leads, ascending, the pair of the least time and such a path."""
    found = {}
    for last in range(len(net.places)):
        told = [(whole_time(rose, trip_of_path(net, path)), path) for path in all_paths(net, first, last)]
        if len(told) > 0:
            found[last] = min(told)
    return found


def quickest(net, rose, first):
    check_quickest(net, rose, first)
    told = best_paths(net, rose, first)
    return {last: lowest(told[last][0], rose.scale) for last in told}


def quick_paths(net, rose, first):
    check_quickest(net, rose, first)
    told = best_paths(net, rose, first)
    return {last: told[last][1] for last in told}


def right_quick_path(net, rose, first, last, time, path):
    """Of any time and path: whether it leads there and takes just the time."""
    if not is_path_between(net, first, last, path) or not is_row_of(time, 2):
        return False
    return time == lowest(whole_time(rose, trip_of_path(net, path)), rose.scale)


def are_quickest(net, rose, first, times, by_paths):
    check_quickest(net, rose, first)
    if not isinstance(times, dict) or not isinstance(by_paths, dict) or len(times) != len(by_paths):
        return False
    # Keys are asked for their kind first: True as a key is equal to 1.
    if not all([is_index(last, len(net.places)) for last in [*times, *by_paths]]) or first not in times:
        return False
    for last in times:
        if last not in by_paths or not right_quick_path(net, rose, first, last, times[last], by_paths[last]):
            return False
    return all([is_reached(net, rose, times, here, after) for here, after in net.ties if here in times])


def is_reached(net, rose, times, here, after):
    """Whether after is reached, and not later than by the tie from here."""
    if after not in times:
        return False
    by_tie = times[here][0] * rose.scale + top(rose, step_between(net, here, after)) * times[here][1]
    return times[after][0] * times[here][1] * rose.scale <= by_tie * times[after][1]


def tied(net, tie):
    return Net(net.size, net.places, [*net.ties, tie])


def untied(net, tie):
    return Net(net.size, net.places, [other for other in net.ties if other != tie])


def with_tie(net, tie):
    check_net(net)
    check_tie(net, tie)
    return tied(net, tie)


def without_tie(net, tie):
    check_net(net)
    if not is_tie(tie, len(net.places)) or tie not in net.ties:
        raise BadTie("this is no tie of the net")
    return untied(net, tie)
