"""Trips: how often which steps are gone, in whatever order."""

from pacerose.errors import BadCount, BadPairs, BadTable, BadTrip
from pacerose.forms import is_count, is_list, is_pair, is_row_of, is_scale, is_table_of
from pacerose.kinds import check_size
from pacerose.roses import check_rose, top
from pacerose.vectors import divisor, led_by, lowest, plus, reduced, times, zeros


def is_counted_step(thing, size):
    """A pair of a step without a common divisor and a number from 1 on."""
    return is_pair(thing) and is_row_of(thing[0], size) and divisor(thing[0]) == 1 and is_scale(thing[1])


def right_trip(size, thing):
    if not isinstance(thing, tuple) or not all([is_counted_step(pair, size) for pair in thing]):
        return False
    return all([here[0] < after[0] for here, after in zip(thing, thing[1:])])


def check_trip(size, thing):
    if not right_trip(size, thing):
        raise BadTrip("this is no trip of the size")


def gathered(pairs):
    """The trip of right pairs."""
    counts = {}
    for step, count in pairs:
        length = divisor(step)
        if length * count > 0:
            bare = reduced(step)
            counts[bare] = counts.get(bare, 0) + length * count
    return tuple([(step, counts[step]) for step in sorted(list(counts))])


def trip(size, pairs):
    check_size(size)
    if not is_list(pairs):
        raise BadPairs("pairs are a list")
    if not all([is_pair(pair) and is_row_of(pair[0], size) and is_count(pair[1]) for pair in pairs]):
        raise BadPairs("each pair is a tuple of a step and a number from 0 on")
    return gathered(pairs)


def is_trip(size, thing):
    check_size(size)
    return right_trip(size, thing)


def whole_time(rose, told):
    """The total of a right trip, times the scale."""
    return sum([count * top(rose, step) for step, count in told])


def total(rose, trip):
    check_rose(rose)
    check_trip(rose.size, trip)
    return lowest(whole_time(rose, trip), rose.scale)


def end(size, trip):
    check_size(size)
    check_trip(size, trip)
    reached = zeros(size)
    for step, count in trip:
        reached = plus(reached, times(count, step))
    return reached


def trip_sum(size, one, other):
    check_size(size)
    check_trip(size, one)
    check_trip(size, other)
    return gathered(list(one) + list(other))


def many_times(told, number):
    return gathered([(step, count * number) for step, count in told])


def trip_times(size, trip, number):
    check_size(size)
    check_trip(size, trip)
    if not is_count(number):
        raise BadCount("a count is a number from 0 on")
    return many_times(trip, number)


def back(size, trip):
    check_size(size)
    check_trip(size, trip)
    return gathered([(times(-1, step), count) for step, count in trip])


def trip_led(size, trip, table):
    check_size(size)
    check_trip(size, trip)
    if not is_table_of(table, size):
        raise BadTable("this is no table of the size")
    return gathered([(led_by(table, step), count) for step, count in trip])
