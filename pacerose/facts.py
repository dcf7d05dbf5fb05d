"""Facts: one trip takes at most so much longer than another one."""

from pacerose.errors import BadFact, BadFacts, BadTimes, BadTrips, BadWeights
from pacerose.forms import are_counts, is_list, is_ratio
from pacerose.kinds import check_kind, check_size
from pacerose.roses import check_rose
from pacerose.trips import gathered, right_trip, whole_time
from pacerose.vectors import led_by, lowest


def right_fact(size, thing):
    if not isinstance(thing, tuple) or len(thing) != 3:
        return False
    return right_trip(size, thing[0]) and right_trip(size, thing[1]) and is_ratio(thing[2])


def check_fact(size, fact):
    if not right_fact(size, fact):
        raise BadFact("this is no fact of the size")


def check_facts(size, facts):
    if not is_list(facts) or not all([right_fact(size, fact) for fact in facts]):
        raise BadFacts("facts are a list of facts of the size")


def check_kind_and_facts(kind, facts):
    check_kind(kind)
    check_facts(kind.size, facts)


def check_trips(size, trips):
    if not is_list(trips) or not all([right_trip(size, trip) for trip in trips]):
        raise BadTrips("trips are a list of trips of the size")


def slack_of(rose, fact):
    one, other, extra = fact
    apart = whole_time(rose, other) - whole_time(rose, one)
    return lowest(apart * extra[1] + extra[0] * rose.scale, rose.scale * extra[1])


def keeps_facts(rose, facts):
    return all([slack_of(rose, fact)[0] >= 0 for fact in facts])


def opposite_of(fact):
    one, other, extra = fact
    return other, one, (-extra[0], extra[1])


def weighted_trip(trips, numbers):
    """The sum of the trips, each so many times."""
    return gathered([(step, count * number) for trip, number in zip(trips, numbers) for step, count in trip])


def combined_fact(facts, weights):
    extra = (0, 1)
    for (_, _, part), weight in zip(facts, weights):
        extra = lowest(extra[0] * part[1] + weight * part[0] * extra[1], extra[1] * part[1])
    here = weighted_trip([one for one, _, _ in facts], weights)
    return here, weighted_trip([other for _, other, _ in facts], weights), extra


def is_fact(size, thing):
    check_size(size)
    return right_fact(size, thing)


def slack(rose, fact):
    check_rose(rose)
    check_fact(rose.size, fact)
    return slack_of(rose, fact)


def satisfies(rose, facts):
    check_rose(rose)
    check_facts(rose.size, facts)
    return keeps_facts(rose, facts)


def opposite(size, fact):
    check_size(size)
    check_fact(size, fact)
    return opposite_of(fact)


def combined(size, facts, weights):
    check_size(size)
    check_facts(size, facts)
    if not are_counts(weights, len(facts)):
        raise BadWeights("weights are a tuple of a number from 0 on for each fact")
    return combined_fact(facts, weights)


def told_facts(size, trips, times):
    check_size(size)
    check_trips(size, trips)
    if not is_list(times) or len(times) != len(trips) or not all([is_ratio(time) for time in times]):
        raise BadTimes("times are a list of a ratio for each trip")
    found = []
    for trip, time in zip(trips, times):
        fact = (trip, (), time)
        found.extend([fact, opposite_of(fact)])
    return found


def led_trip(table, told):
    return gathered([(led_by(table, step), count) for step, count in told])


def led_facts(kind, facts):
    check_kind_and_facts(kind, facts)
    found = {}
    for one, other, extra in facts:
        for table in kind.tables:
            found[(led_trip(table, one), led_trip(table, other), extra)] = True
    return list(found)


def averaged(kind, fact):
    check_kind(kind)
    check_fact(kind.size, fact)
    one, other, extra = fact
    here, there = [], []
    for table in kind.tables:
        here.extend(led_trip(table, one))
        there.extend(led_trip(table, other))
    return gathered(here), gathered(there), lowest(len(kind) * extra[0], extra[1])
