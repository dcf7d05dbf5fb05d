"""What a log says of any trip: the least and the greatest time, with papers for both."""

from math import lcm

from pacerose.clips import box, clipped
from pacerose.errors import Unkept
from pacerose.floors import FloorSearch
from pacerose.forms import are_counts, is_pair, is_row_of, is_scale
from pacerose.logs import Book, check_book, is_within
from pacerose.middles import middle, turned_rows
from pacerose.moves import Moves
from pacerose.ratios import check_ratio
from pacerose.reaches import goals_around
from pacerose.roses import Rose
from pacerose.shares import right_shares
from pacerose.trips import check_trip, gathered, many_times, whole_time
from pacerose.vectors import compare, inner, lowest


def check_kept(book):
    if book.first_shortcut() is not None:
        raise Unkept("no rose keeps the log")


def check_book_and_trip(kind, log, trip):
    book = check_book(kind, log)
    check_trip(kind.size, trip)
    return book


def kept_book(kind, log, trip):
    book = check_book_and_trip(kind, log, trip)
    check_kept(book)
    return book


def all_fastest(book, trip):
    """For each step of the trip its fastest way, with prices; None if some step has no way."""
    found = [book.fastest(step) for step, _ in trip]
    return None if "none" in [told[0] for told in found] else [told[1:] for told in found]


def greatest_of(book, trip):
    found = all_fastest(book, trip)
    if found is None:
        return None
    scale, above = 1, 0
    for (_, count), (way, _) in zip(trip, found):
        above, scale = lowest(above * way[0] + count * inner(way[1], book.costs) * scale, scale * way[0])
    return lowest(above, scale * book.unit)


def greatest_time(kind, log, trip):
    return greatest_of(kept_book(kind, log, trip), trip)


def made_roof(book, trip, found):
    scale = 1
    for way, _ in found:
        scale = lcm(scale, way[0])
    costs, moves = [0] * len(book.entries), Moves()
    for (step, count), (way, _) in zip(trip, found):
        often = count * (scale // way[0])
        for number, (image, j) in zip(way[1], book.pairs):
            costs[j] += often * number
            moves.put(step, image, book.entries[j][0], often * number)
    return scale, tuple(costs), moves.shares(book.kind, many_times(trip, scale), book.trip_of(costs))


def roof(kind, log, trip):
    book = kept_book(kind, log, trip)
    found = all_fastest(book, trip)
    return None if found is None else made_roof(book, trip, found)


def check_paper(kind, log, trip, ratio):
    book = check_book_and_trip(kind, log, trip)
    check_ratio(ratio)
    check_kept(book)
    return book


def are_costs(book, thing):
    """Counts for all entries, 0 for those without a bound above."""
    if not are_counts(thing, len(book.entries)):
        return False
    return all([count == 0 or high is not None for count, (_, _, high) in zip(thing, book.entries)])


def all_highs(book, costs):
    """The costs times the highs, times the unit."""
    return sum([count * book.high(j) for j, count in enumerate(costs) if count > 0])


def is_roof(kind, log, trip, ratio, thing):
    book = check_paper(kind, log, trip, ratio)
    if not isinstance(thing, tuple) or len(thing) != 3:
        return False
    scale, costs, told = thing
    if not is_scale(scale) or not are_costs(book, costs):
        return False
    if lowest(all_highs(book, costs), scale * book.unit) != ratio:
        return False
    return right_shares(kind, many_times(trip, scale), book.trip_of(costs), told)


def found_climb(book, trip):
    for step, _ in trip:
        told = book.fastest(step)
        if told[0] == "none":
            return step, told[1]
    return None


def climb(kind, log, trip):
    return found_climb(kept_book(kind, log, trip), trip)


def is_climb(kind, log, trip, thing):
    book = kept_book(kind, log, trip)
    if not is_pair(thing) or not all([is_row_of(row, kind.size) for row in thing]):
        return False
    step, row = thing
    if step not in [told for told, _ in trip] or inner(row, step) <= 0:
        return False
    return all([inner(row, image) <= 0 for image, _ in book.pairs])


def least_time(kind, log, trip):
    return FloorSearch(kept_book(kind, log, trip), trip).time()


def floor(kind, log, trip):
    return FloorSearch(kept_book(kind, log, trip), trip).paper()


def is_floor(kind, log, trip, ratio, thing):
    book = check_paper(kind, log, trip, ratio)
    if not isinstance(thing, tuple) or len(thing) != 4:
        return False
    scale, gains, costs, told = thing
    if not is_scale(scale) or not are_counts(gains, len(book.entries)) or not are_costs(book, costs):
        return False
    if lowest(inner(gains, book.lows) - all_highs(book, costs), scale * book.unit) != ratio:
        return False
    other = gathered(many_times(trip, scale) + book.trip_of(costs))
    return right_shares(kind, book.trip_of(gains), other, told)


def gap(one, other):
    return lowest(one[0] * other[1] - other[0] * one[1], one[1] * other[1])


def quotient(one, other):
    return lowest(one[0] * other[1], one[1] * other[0])


def highest_rose(book, trip):
    """A keeper in which each step of the trip takes its greatest time."""
    points = [book.far_row(book.entries[j][0], book.entries[j][1]) for j in book.told()]
    return book.rose_of(points + [book.far_row(step, (0, 1)) for step, _ in trip])


def between(book, trip, ratio, low_rose, least, greatest):
    """A keeper in which the trip takes the ratio, above the least time."""
    steps = [step for step, _, _ in book.entries] + [step for step, _ in trip]
    if greatest is not None:
        weight = quotient(gap(ratio, least), gap(greatest, least))
        weighted = [(gap((1, 1), weight), low_rose), (weight, highest_rose(book, trip))]
        return middle(book.kind, steps, weighted)
    # What climbs takes nothing on the steps with a bound above: any number of times it may be put to a keeper.
    climber = Rose(book.kind.size, 1, turned_rows(book.kind, [found_climb(book, trip)[1]]))
    weight = quotient(gap(ratio, least), (whole_time(climber, trip), 1))
    return middle(book.kind, steps, [((1, 1), low_rose), (weight, climber)])


def rose_at(kind, log, trip, ratio):
    book = check_paper(kind, log, trip, ratio)
    search, greatest = FloorSearch(book, trip), greatest_of(book, trip)
    least = search.time()
    if not is_within(ratio, least, greatest):
        return None
    low_rose = search.keeper()
    return low_rose if ratio == least else between(book, trip, ratio, low_rose, least, greatest)


def bounds_of(book):
    """For each axis the greatest times of going back, below 0, and ahead; None if some have no bound."""
    found = []
    for goal in goals_around(book.kind.size):
        told = book.fastest(goal)
        if told[0] == "none":
            return None
        found.append(book.time(told[1]))
    return [((-low[0], low[1]), high) for high, low in zip(found[::2], found[1::2])]


def greatest_rose(kind, log):
    book = check_book(kind, log)
    check_kept(book)
    bounds = bounds_of(book)
    if bounds is None:
        return None
    body = box(bounds)
    for image, j in book.pairs:
        body = clipped(body, image, book.entries[j][2])
    return Rose(kind.size, body[0], body[1])


def tightened(kind, log):
    book = check_book(kind, log)
    check_kept(book)
    told = {}
    for step, _, _ in book.entries:
        trip = gathered([(step, 1)])
        told[step] = (FloorSearch(book, trip).time(), greatest_of(book, trip))
    return told


def is_sure(kind, log, step, low, high):
    """Whether all keepers of the log without this step keep what is told of it."""
    book = Book(kind, {other: log[other] for other in log if other != step})
    trip = gathered([(step, 1)])
    if high is not None:
        greatest = greatest_of(book, trip)
        if greatest is None or compare(greatest, high) > 0:
            return False
    return low[0] == 0 or compare(low, FloorSearch(book, trip).time()) <= 0


def sure_entries(kind, log):
    book = check_book(kind, log)
    check_kept(book)
    return tuple([j for j, entry in enumerate(book.entries) if is_sure(kind, log, *entry)])
