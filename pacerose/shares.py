"""Shares: how the images of one trip's steps make up another trip, whatever the rose."""

from pacerose.forms import are_counts, is_pair, is_scale
from pacerose.kinds import check_kind, led_images
from pacerose.simplex import deal_or_dam
from pacerose.trips import check_trip
from pacerose.vectors import scaled_down, times


def check_two_trips(kind, one, other):
    check_kind(kind)
    check_trip(kind.size, one)
    check_trip(kind.size, other)


def told_images(kind, told):
    found = []
    for j, (step, _) in enumerate(told):
        found.extend([(image, j) for image in led_images(kind, step)])
    return sorted(found)


def images(kind, trip):
    check_kind(kind)
    check_trip(kind.size, trip)
    return told_images(kind, trip)


def share_columns(kind, one, other):
    """A column for each step of one and each image of other, then what may be left over of each step of other."""
    pairs = told_images(kind, other)
    below = kind.size * len(one)
    columns = []
    for i in range(len(one)):
        for image, j in pairs:
            column = [(kind.size * i + k, number) for k, number in enumerate(image) if number != 0]
            columns.append(column + [(below + j, 1)])
    return columns + [[(below + j, 1)] for j in range(len(other))]


def share_goal(one, counts):
    goal = []
    for step, count in one:
        goal.extend(times(count, step))
    return tuple(goal + counts)


def shares_and_dam(kind, one, other):
    """For right trips: the pair of shares and None, or of None and a dam: prices of both trips' steps."""
    if len(one) == 0:
        return (1, ()), None
    goal = share_goal(one, [count for _, count in other])
    deal, dammed = deal_or_dam(share_columns(kind, one, other), goal)
    if deal is None:
        return None, dammed
    wide = (len(deal[1]) - len(other)) // len(one)
    scale, counts = scaled_down(deal[0], deal[1][:wide * len(one)])
    return (scale, tuple([counts[wide * i:wide * (i + 1)] for i in range(len(one))])), None


def shares(kind, one, other):
    check_two_trips(kind, one, other)
    return shares_and_dam(kind, one, other)[0]


def makes_steps(kind, one, pairs, scale, table):
    for (step, count), line in zip(one, table):
        for k in range(kind.size):
            told = sum([number * pair[0][k] for number, pair in zip(line, pairs)])
            if told != scale * count * step[k]:
                return False
    return True


def right_shares(kind, one, other, thing):
    if not is_pair(thing) or not is_scale(thing[0]) or not isinstance(thing[1], tuple):
        return False
    scale, table = thing
    pairs = told_images(kind, other)
    if len(table) != len(one) or not all([are_counts(line, len(pairs)) for line in table]):
        return False
    spent = [0] * len(other)
    for line in table:
        for number, (_, j) in zip(line, pairs):
            spent[j] += number
    if not all([number <= scale * count for number, (_, count) in zip(spent, other)]):
        return False
    return makes_steps(kind, one, pairs, scale, table)


def is_shares(kind, one, other, thing):
    check_two_trips(kind, one, other)
    return right_shares(kind, one, other, thing)
