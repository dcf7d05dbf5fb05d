"""Whether some rose satisfies facts, or they quarrel."""

from pacerose.facts import check_kind_and_facts, combined_fact, keeps_facts
from pacerose.forms import are_counts, is_pair
from pacerose.roses import Rose, keeps_rose
from pacerose.searches import Search, shared_below, whole
from pacerose.shares import right_shares


def agreed_and_quarrel(kind, facts):
    """For right facts: the pair of a rose that satisfies them and None, or of None and a quarrel."""
    unit = shared_below([extra for _, _, extra in facts])
    terms = [(other, one, (whole(extra, unit),)) for one, other, extra in facts]
    search = Search(kind, terms, ((), (), (-1,)))
    deal, dammed = search.deal_or_dam()
    if deal is None:
        return search.priced_rose(-dammed[-1] * unit, dammed), None
    return None, (deal[1][:len(facts)], search.shares(0, deal[1]))


def agreed(kind, facts):
    check_kind_and_facts(kind, facts)
    return agreed_and_quarrel(kind, facts)[0]


def quarrel(kind, facts):
    check_kind_and_facts(kind, facts)
    return agreed_and_quarrel(kind, facts)[1]


def right_quarrel(kind, facts, thing):
    if not is_pair(thing) or not are_counts(thing[0], len(facts)):
        return False
    one, other, extra = combined_fact(facts, thing[0])
    return extra[0] < 0 and right_shares(kind, other, one, thing[1])


def is_quarrel(kind, facts, thing):
    check_kind_and_facts(kind, facts)
    return right_quarrel(kind, facts, thing)


def is_rose_here(kind, facts, thing):
    """Of any value: whether it is a rose that the kind keeps and that satisfies the facts."""
    return isinstance(thing, Rose) and keeps_rose(kind, thing) and keeps_facts(thing, facts)
