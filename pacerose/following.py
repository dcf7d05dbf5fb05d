"""Whether a claim follows from facts, for all roses of a kind."""

from pacerose.errors import BadClaim
from pacerose.facts import check_kind_and_facts, combined_fact, right_fact, slack_of, weighted_trip
from pacerose.forms import are_counts, is_count
from pacerose.quarrels import is_rose_here
from pacerose.searches import Search, shared_below, whole
from pacerose.shares import right_shares
from pacerose.vectors import compare, divisor, lowest


def check_claim(kind, claim):
    if not right_fact(kind.size, claim):
        raise BadClaim("a claim is a fact of the size of the kind")


def check_following(kind, facts, claim):
    check_kind_and_facts(kind, facts)
    check_claim(kind, claim)


def derivation_and_counter(kind, facts, claim):
    """For right facts and a right claim: the pair of a derivation and None, or of None and a counter.

    The weight and what the extras leave over make 1 together: so they are not both nothing.
    """
    unit, many = shared_below([extra for _, _, extra in facts] + [claim[2]]), len(facts)
    terms = [(other, one, (whole(extra, unit), 0)) for one, other, extra in facts]
    one, other, extra = claim
    terms.extend([(one, other, (-whole(extra, unit), 1)), ((), (), (1, 1))])
    search = Search(kind, terms, ((), (), (0, 1)))
    deal, dammed = search.deal_or_dam()
    if deal is None:
        return None, search.priced_rose(-dammed[-2] * unit, dammed)
    # What is left over does not have to be divided evenly.
    shared = divisor(deal[1][:many + 1] + deal[1][many + 2:])
    counts = [number // shared for number in deal[1]]
    return (counts[many], tuple(counts[:many]), search.shares(0, counts)), None


def follows(kind, facts, claim):
    check_following(kind, facts, claim)
    return derivation_and_counter(kind, facts, claim)[1] is None


def derivation(kind, facts, claim):
    check_following(kind, facts, claim)
    return derivation_and_counter(kind, facts, claim)[0]


def counter(kind, facts, claim):
    check_following(kind, facts, claim)
    return derivation_and_counter(kind, facts, claim)[1]


def right_derivation(kind, facts, claim, thing):
    if not isinstance(thing, tuple) or len(thing) != 3:
        return False
    weight, weights, told = thing
    if not is_count(weight) or not are_counts(weights, len(facts)):
        return False
    one, other, extra = claim
    here, there, left = combined_fact(facts, weights)
    over = compare(left, lowest(weight * extra[0], extra[1]))
    if over > 0 or (weight == 0 and over == 0):
        return False
    return right_shares(kind, weighted_trip([one, there], (weight, 1)), weighted_trip([other, here], (weight, 1)), told)


def right_counter(kind, facts, claim, thing):
    return is_rose_here(kind, facts, thing) and slack_of(thing, claim)[0] < 0


def is_derivation(kind, facts, claim, thing):
    check_following(kind, facts, claim)
    return right_derivation(kind, facts, claim, thing)


def is_counter(kind, facts, claim, thing):
    check_following(kind, facts, claim)
    return right_counter(kind, facts, claim, thing)
