"""Whether one more tie helps to go from one place to another one in some rose."""

from pacerose.flows import check_unlike, right_net_bar, right_net_shares, shares_and_bar
from pacerose.forms import is_pair
from pacerose.nets import (all_paths, check_kind_and_net, check_place, check_sizes, check_tie, is_path_between, tied,
                           trip_of_path)


def goes_by(path, tie):
    return tie in list(zip(path, path[1:]))


def check_more(kind, net, first, last, tie):
    """The net with the tie."""
    check_kind_and_net(kind, net)
    check_place(net, first)
    check_place(net, last)
    check_tie(net, tie)
    check_sizes(kind, net)
    check_unlike(first, last)
    return tied(net, tie)


def paths_by(wide, first, last, tie):
    return [path for path in all_paths(wide, first, last) if goes_by(path, tie)]


def found_help(kind, net, wide, first, last, tie):
    """A path by the tie with a rose in which it is quicker than each path of the net; None if there is none."""
    for path in paths_by(wide, first, last, tie):
        rose = shares_and_bar(kind, net, first, last, trip_of_path(wide, path))[1]
        if rose is not None:
            return path, rose
    return None


def helps(kind, net, first, last, tie):
    wide = check_more(kind, net, first, last, tie)
    return found_help(kind, net, wide, first, last, tie) is not None


def helping(kind, net, first, last, tie):
    wide = check_more(kind, net, first, last, tie)
    return found_help(kind, net, wide, first, last, tie)


def helpless(kind, net, first, last, tie):
    wide, found = check_more(kind, net, first, last, tie), {}
    for path in paths_by(wide, first, last, tie):
        told = shares_and_bar(kind, net, first, last, trip_of_path(wide, path))[0]
        if told is None:
            return None
        found[path] = told
    return found


def is_helping(kind, net, first, last, tie, thing):
    wide = check_more(kind, net, first, last, tie)
    if not is_pair(thing) or not is_path_between(wide, first, last, thing[0]) or not goes_by(thing[0], tie):
        return False
    return right_net_bar(kind, net, first, last, trip_of_path(wide, thing[0]), thing[1])


def are_helpless(kind, net, first, last, tie, thing):
    wide = check_more(kind, net, first, last, tie)
    if not isinstance(thing, dict):
        return False
    # Keys are asked for their kind first: True in a path is equal to 1.
    if not all([is_path_between(wide, first, last, path) for path in thing]):
        return False
    if sorted(list(thing)) != paths_by(wide, first, last, tie):
        return False
    return all([right_net_shares(kind, net, first, last, trip_of_path(wide, path), thing[path]) for path in thing])
