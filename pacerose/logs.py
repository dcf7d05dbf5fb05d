"""Logs of told times, and the ways by which they tell of other steps."""

from math import lcm

from pacerose.deals import right_deal, right_scale_and_counts
from pacerose.errors import BadLog, BadSteps, BadWay
from pacerose.forms import are_rows_of, is_index, is_pair, is_ratio, is_row_of
from pacerose.kinds import check_kind, check_size, led_images
from pacerose.middles import turned_rows
from pacerose.roses import Rose, check_rose, check_step, time_of
from pacerose.simplex import solved, sparse
from pacerose.trips import gathered
from pacerose.vectors import compare, inner, lowest, times, told_together, zeros


def is_time(thing):
    return is_ratio(thing) and thing[0] >= 0


def is_told(thing):
    """What may be told of an entry: a time, or a pair of a low and a high one, None for no bound above."""
    if is_time(thing):
        return True
    if not is_pair(thing) or not is_time(thing[0]):
        return False
    low, high = thing
    return high is None or (is_ratio(high) and compare(low, high) <= 0)


def right_log(size, thing):
    if not isinstance(thing, dict) or len(thing) > 8:
        return False
    # Keys are asked for their kind first: (True, 0) as a key is equal to (1, 0).
    if not all([is_row_of(step, size) and step != zeros(size) for step in thing]):
        return False
    return all([is_told(thing[step]) for step in thing])


def check_log(size, log):
    if not right_log(size, log):
        raise BadLog("this is no log of the size")


def entries_of(log):
    """For each step, ascending: the step, its low and its high."""
    found = []
    for step in sorted(list(log)):
        low, high = log[step] if is_pair(log[step][0]) else (log[step], log[step])
        found.append((step, low, high))
    return found


def is_within(told, low, high):
    return compare(low, told) <= 0 and (high is None or compare(told, high) <= 0)


def paired(kind, entries):
    found = []
    for j, (step, _, high) in enumerate(entries):
        if high is not None:
            found.extend([(image, j) for image in led_images(kind, step)])
    return sorted(found)


def shared_unit(entries):
    """A number with which all lows and highs become whole."""
    unit = 1
    for _, low, high in entries:
        unit = lcm(unit, low[1])
        if high is not None:
            unit = lcm(unit, high[1])
    return unit


class Book:
    """A log for a kind: its entries, the images of those with a bound above, and all times made whole by a unit."""

    def __init__(self, kind, log):
        self.kind = kind
        self.entries = entries_of(log)
        self.pairs = paired(kind, self.entries)
        self.unit = shared_unit(self.entries)
        self.lows = [low[0] * (self.unit // low[1]) for _, low, _ in self.entries]
        self.columns = [sparse(image) for image, _ in self.pairs]
        self.costs = [self.high(j) for _, j in self.pairs]

    def high(self, j):
        bound = self.entries[j][2]
        return bound[0] * (self.unit // bound[1])

    def fastest(self, step):
        """The answer of the search for a way of the least time."""
        return solved(self.columns, self.costs, step)

    def time(self, way):
        return lowest(inner(way[1], self.costs), way[0] * self.unit)

    def holds_way(self, step, thing):
        return right_deal([image for image, _ in self.pairs], step, thing)

    def is_short(self, j, way):
        return inner(way[1], self.costs) < self.lows[j] * way[0]

    def told(self):
        """The indexes of the entries that are told to take more than no time."""
        return [j for j, low in enumerate(self.lows) if low > 0]

    def first_shortcut(self):
        for j in self.told():
            found = self.fastest(self.entries[j][0])
            if found[0] == "least" and self.is_short(j, found[1]):
                return j, found[1]
        return None

    def far_row(self, step, time):
        """A row, as a pair (scale, row), below all bounds: its dot with the step is the greatest, or that time."""
        found = self.fastest(step)
        if found[0] == "none":
            return time[1] * inner(found[1], step), times(time[0], found[1])
        scale, row = found[2]
        return scale * self.unit, row

    def trip_of(self, counts):
        """The trip that has the step of each entry as often as its count says."""
        return gathered([(entry[0], count) for entry, count in zip(self.entries, counts)])

    def rose_of(self, points):
        """The rose of rows, told as pairs (scale, row), and all that the kind makes of them."""
        scale, rows = told_together(points)
        return Rose(self.kind.size, scale, turned_rows(self.kind, rows))


def check_book(kind, log):
    check_kind(kind)
    check_log(kind.size, log)
    return Book(kind, log)


def is_log(size, thing):
    check_size(size)
    return right_log(size, thing)


def log_from(rose, steps):
    check_rose(rose)
    if not are_rows_of(steps, rose.size) or len(steps) > 8 or zeros(rose.size) in steps:
        raise BadSteps("steps are a list of at most eight steps, none of them zeros")
    if len(set(steps)) < len(steps):
        raise BadSteps("a step is there twice")
    return {step: time_of(rose, step) for step in sorted(steps)}


def keeps(rose, log):
    check_rose(rose)
    check_log(rose.size, log)
    return all([is_within(time_of(rose, step), low, high) for step, low, high in entries_of(log)])


def log_images(kind, log):
    return check_book(kind, log).pairs


def is_way(kind, log, step, thing):
    book = check_book(kind, log)
    check_step(kind.size, step)
    return book.holds_way(step, thing)


def way_time(kind, log, way):
    book = check_book(kind, log)
    if not right_scale_and_counts(way, len(book.pairs)):
        raise BadWay("a way is a pair of a scale and a count for each image, without a common divisor")
    return book.time(way)


def shortest_way(kind, log, step):
    book = check_book(kind, log)
    check_step(kind.size, step)
    found = book.fastest(step)
    return None if found[0] == "none" else found[1]


def shortcut(kind, log):
    return check_book(kind, log).first_shortcut()


def is_shortcut(kind, log, thing):
    book = check_book(kind, log)
    if not is_pair(thing) or not is_index(thing[0], len(book.entries)):
        return False
    j, way = thing
    return book.holds_way(book.entries[j][0], way) and book.is_short(j, way)


def rose_for(kind, log):
    book = check_book(kind, log)
    if book.first_shortcut() is not None:
        return None
    return book.rose_of([book.far_row(book.entries[j][0], book.entries[j][1]) for j in book.told()])
