"""Whether some of ones is always as quick as some of others, in roses that satisfy facts."""

from pacerose.errors import BadRoutes
from pacerose.facts import check_kind_and_facts, combined_fact, weighted_trip
from pacerose.forms import are_counts, is_list
from pacerose.quarrels import is_rose_here
from pacerose.searches import Search, shared_below, whole
from pacerose.shares import right_shares
from pacerose.trips import right_trip, whole_time
from pacerose.vectors import divisor


def check_routes(size, routes):
    if not is_list(routes) or not 1 <= len(routes) <= 12 or not all([right_trip(size, trip) for trip in routes]):
        raise BadRoutes("routes are a list of 1 to 12 trips of the size")


def check_both_routes(kind, facts, ones, others):
    check_kind_and_facts(kind, facts)
    check_routes(kind.size, ones)
    check_routes(kind.size, others)


def weights_and_outrun(kind, facts, ones, others):
    """For right facts and routes: the pair of weights and None, or of None and an outrun.

    The tails: ahead and behind have one sum; the extras are made up by what is left over; this and ahead make 1.
    """
    unit = shared_below([extra for _, _, extra in facts])
    terms = [(one, (), (1, 0, 1)) for one in ones] + [((), other, (-1, 0, 0)) for other in others]
    terms.extend([(other, one, (0, whole(extra, unit), 0)) for one, other, extra in facts])
    terms.append(((), (), (0, 1, 1)))
    search = Search(kind, terms, ((), (), (0, 0, 1)))
    deal, dammed = search.deal_or_dam()
    if deal is None:
        return None, search.priced_rose(-dammed[-2] * unit, dammed)
    left = len(terms) - 1
    # What is left over does not have to be divided evenly.
    shared = divisor(deal[1][:left] + deal[1][left + 1:])
    counts = [number // shared for number in deal[1]]
    ahead, behind = counts[:len(ones)], counts[len(ones):len(ones) + len(others)]
    backing = counts[len(ones) + len(others):left]
    return (tuple(ahead), tuple(behind), tuple(backing), search.shares(0, counts)), None


def keep_up(kind, facts, ones, others):
    check_both_routes(kind, facts, ones, others)
    return weights_and_outrun(kind, facts, ones, others)[1] is None


def weights(kind, facts, ones, others):
    check_both_routes(kind, facts, ones, others)
    return weights_and_outrun(kind, facts, ones, others)[0]


def outrun(kind, facts, ones, others):
    check_both_routes(kind, facts, ones, others)
    return weights_and_outrun(kind, facts, ones, others)[1]


def right_weights(kind, facts, ones, others, thing):
    if not isinstance(thing, tuple) or len(thing) != 4:
        return False
    ahead, behind, backing, told = thing
    if not are_counts(ahead, len(ones)) or not are_counts(behind, len(others)) or not are_counts(backing, len(facts)):
        return False
    here, there, extra = combined_fact(facts, backing)
    if sum(ahead) != sum(behind) or extra[0] > 0 or (sum(ahead) == 0 and extra[0] == 0):
        return False
    one = weighted_trip([*ones, there], (*ahead, 1))
    return right_shares(kind, one, weighted_trip([*others, here], (*behind, 1)), told)


def is_weights(kind, facts, ones, others, thing):
    check_both_routes(kind, facts, ones, others)
    return right_weights(kind, facts, ones, others, thing)


def right_outrun(kind, facts, ones, others, thing):
    if not is_rose_here(kind, facts, thing):
        return False
    return min([whole_time(thing, one) for one in ones]) > max([whole_time(thing, other) for other in others])


def is_outrun(kind, facts, ones, others, thing):
    check_both_routes(kind, facts, ones, others)
    return right_outrun(kind, facts, ones, others, thing)
