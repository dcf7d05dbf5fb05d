"""What a log says of winds: of the time by which one trip takes longer than another one, and of drifts."""

from pacerose.errors import Windless
from pacerose.forms import are_counts, is_scale
from pacerose.gusts import GustSearch, wind_between
from pacerose.kinds import check_size, mirror_kind
from pacerose.logs import Book, check_log
from pacerose.ratios import check_ratio
from pacerose.roses import check_step
from pacerose.rounds import right_windy_shares
from pacerose.stretches import all_highs, are_costs
from pacerose.trips import check_trip, gathered, many_times
from pacerose.vectors import compare, inner, lowest, times


def check_size_and_log(size, log):
    check_size(size)
    check_log(size, log)


def keeper_search(size, log):
    return GustSearch(size, log, (), ())


def wind_for(size, log):
    check_size_and_log(size, log)
    return keeper_search(size, log).wind()


def windy_quarrel(size, log):
    check_size_and_log(size, log)
    return keeper_search(size, log).quarrel()


def are_gains_and_costs(book, gains, costs):
    return are_counts(gains, len(book.entries)) and are_costs(book, costs)


def is_windy_quarrel(size, log, thing):
    check_size_and_log(size, log)
    book = Book(mirror_kind(size), log)
    if not isinstance(thing, tuple) or len(thing) != 3 or not are_gains_and_costs(book, thing[0], thing[1]):
        return False
    gains, costs, told = thing
    if inner(gains, book.lows) <= all_highs(book, costs):
        return False
    return right_windy_shares(size, book.trip_of(gains), book.trip_of(costs), told)


def check_gap(size, log, one, other):
    check_size_and_log(size, log)
    check_trip(size, one)
    check_trip(size, other)


def found_keeper(size, log):
    """A wind that keeps the log."""
    told = keeper_search(size, log).wind()
    if told is None:
        raise Windless("no wind keeps the log")
    return told


def found_gap(size, log, one, other):
    search = GustSearch(size, log, one, other)
    # What has no bound tells nothing of the log itself: it is asked for a wind.
    if search.found[0] != "least":
        found_keeper(size, log)
    return search


def least_gap(size, log, one, other):
    check_gap(size, log, one, other)
    return found_gap(size, log, one, other).least()


def windy_floor(size, log, one, other):
    check_gap(size, log, one, other)
    return found_gap(size, log, one, other).paper()


def is_windy_floor(size, log, one, other, ratio, thing):
    check_gap(size, log, one, other)
    check_ratio(ratio)
    found_keeper(size, log)
    book = Book(mirror_kind(size), log)
    if not isinstance(thing, tuple) or len(thing) != 4 or not is_scale(thing[0]):
        return False
    scale, gains, costs, told = thing
    if not are_gains_and_costs(book, gains, costs):
        return False
    if lowest(inner(gains, book.lows) - all_highs(book, costs), scale * book.unit) != ratio:
        return False
    here = gathered(many_times(other, scale) + book.trip_of(gains))
    return right_windy_shares(size, here, gathered(many_times(one, scale) + book.trip_of(costs)), told)


def negative(ratio):
    return None if ratio is None else (-ratio[0], ratio[1])


def half(ratio):
    return None if ratio is None else lowest(ratio[0], 2 * ratio[1])


def wind_at(size, log, one, other, ratio):
    check_gap(size, log, one, other)
    check_ratio(ratio)
    keeper = found_keeper(size, log)
    low, high = GustSearch(size, log, one, other), GustSearch(size, log, other, one)
    least, greatest = low.least(), negative(high.least())
    if (least is not None and compare(ratio, least) < 0) or (greatest is not None and compare(ratio, greatest) > 0):
        return None
    return wind_between(low, low.wind_below(keeper, ratio), high.wind_below(keeper, negative(ratio)), ratio)


def drift_stretch(size, log, step):
    check_size_and_log(size, log)
    check_step(size, step)
    ahead, back = gathered([(step, 1)]), gathered([(times(-1, step), 1)])
    low, high = found_gap(size, log, ahead, back).least(), found_gap(size, log, back, ahead).least()
    return half(low), half(negative(high))
