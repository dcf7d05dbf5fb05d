"""How much longer one trip can take than another one in roses that satisfy facts."""

from pacerose.errors import Quarrel
from pacerose.facts import check_kind_and_facts
from pacerose.following import check_following, derivation_and_counter
from pacerose.forms import is_pair
from pacerose.quarrels import agreed_and_quarrel, is_rose_here
from pacerose.searches import Search, shared_below, whole
from pacerose.trips import check_trip, whole_time
from pacerose.vectors import inner, lowest


class Farthest:
    """For right facts and trips: how much longer one can take than other. Facts that quarrel are refused."""

    def __init__(self, kind, facts, one, other):
        self.unit = shared_below([extra for _, _, extra in facts])
        self.costs = [whole(extra, self.unit) for _, _, extra in facts]
        self.search = Search(kind, [(there, here, ()) for here, there, _ in facts], (one, other, ()))
        self.found = self.search.least(self.costs)
        self.here = None
        if self.found[0] == "none":
            # Growth tells nothing of the facts themselves: they are asked for a rose.
            self.here = agreed_and_quarrel(kind, facts)[0]
        if self.found[0] == "endless" or (self.found[0] == "none" and self.here is None):
            raise Quarrel("the facts quarrel")

    def greatest(self):
        if self.found[0] == "none":
            return None
        scale, counts = self.found[1]
        return lowest(inner(counts[:len(self.costs)], self.costs), scale * self.unit)

    def reaching(self):
        if self.found[0] == "none":
            return None
        scale, prices = self.found[2]
        return self.search.priced_rose(scale * self.unit, prices)

    def endless(self):
        if self.found[0] != "none":
            return None
        return self.here, self.search.priced_rose(1, self.found[1])


def check_range(kind, facts, one, other):
    check_kind_and_facts(kind, facts)
    check_trip(kind.size, one)
    check_trip(kind.size, other)


def greatest(kind, facts, one, other):
    check_range(kind, facts, one, other)
    return Farthest(kind, facts, one, other).greatest()


def reaching(kind, facts, one, other):
    check_range(kind, facts, one, other)
    return Farthest(kind, facts, one, other).reaching()


def endless(kind, facts, one, other):
    check_range(kind, facts, one, other)
    return Farthest(kind, facts, one, other).endless()


def is_growth(kind, facts, one, other, thing):
    """A rose of the kind in which facts are kept with their extras left aside, and one takes longer than other."""
    if not is_rose_here(kind, [(here, there, (0, 1)) for here, there, _ in facts], thing):
        return False
    return whole_time(thing, one) > whole_time(thing, other)


def is_endless(kind, facts, one, other, thing):
    check_range(kind, facts, one, other)
    if agreed_and_quarrel(kind, facts)[0] is None:
        raise Quarrel("the facts quarrel")
    if not is_pair(thing) or not is_rose_here(kind, facts, thing[0]):
        return False
    return is_growth(kind, facts, one, other, thing[1])


def stretch(kind, facts, trip):
    check_kind_and_facts(kind, facts)
    check_trip(kind.size, trip)
    above, below = Farthest(kind, facts, (), trip).greatest()
    return (-above, below), Farthest(kind, facts, trip, ()).greatest()


def answer(kind, facts, claim):
    check_following(kind, facts, claim)
    if agreed_and_quarrel(kind, facts)[0] is None:
        return "quarrel"
    if derivation_and_counter(kind, facts, claim)[1] is None:
        return "sure"
    return "no" if agreed_and_quarrel(kind, [*facts, claim])[0] is None else "open"
