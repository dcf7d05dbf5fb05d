"""Which of several routes may be the quickest, and which of them are enough."""

from pacerose.errors import BadIndex, BadIndexes
from pacerose.facts import check_kind_and_facts
from pacerose.following import derivation_and_counter
from pacerose.forms import is_index, is_list, is_lot
from pacerose.quarrels import agreed_and_quarrel
from pacerose.routes import check_routes, weights_and_outrun
from pacerose.trips import whole_time


def check_bests(kind, facts, routes):
    check_kind_and_facts(kind, facts)
    check_routes(kind.size, routes)


def found_best(kind, facts, routes, index):
    """A rose here in which the route takes less time than each other one; None if there is none."""
    others = [route for k, route in enumerate(routes) if k != index]
    if len(others) == 0:
        return agreed_and_quarrel(kind, facts)[0]
    return weights_and_outrun(kind, facts, others, [routes[index]])[1]


def best_rose(kind, facts, routes, index):
    check_bests(kind, facts, routes)
    if not is_index(index, len(routes)):
        raise BadIndex("this is no index of a route")
    return found_best(kind, facts, routes, index)


def all_bests(kind, facts, routes):
    return [k for k in range(len(routes)) if found_best(kind, facts, routes, k) is not None]


def bests(kind, facts, routes):
    check_bests(kind, facts, routes)
    return all_bests(kind, facts, routes)


class Runs:
    """Routes in roses here: some of these are gathered, so that what they show is not searched again."""

    def __init__(self, kind, facts, routes):
        self.kind = kind
        self.facts = facts
        self.routes = routes
        self.times = []

    def never_longer(self, one, other):
        """Whether in each rose here the route of the first index takes at most as long as that of the second one."""
        if self.routes[one] == self.routes[other]:
            return True
        if any([told[one] > told[other] for told in self.times]):
            return False
        claim = (self.routes[one], self.routes[other], (0, 1))
        rose = derivation_and_counter(self.kind, self.facts, claim)[1]
        if rose is None:
            return True
        self.times.append([whole_time(rose, route) for route in self.routes])
        return False

    def is_sure(self, one):
        """Whether in each rose here the route takes at most as long as each other one."""
        for other in range(len(self.routes)):
            if not self.never_longer(one, other):
                return False
        return True

    def are_alike(self, one, other):
        return self.never_longer(one, other) and self.never_longer(other, one)

    def firsts(self):
        """The index of the first one of all routes that are alike here."""
        kept = []
        for index in range(len(self.routes)):
            alike = [known for known in kept if self.are_alike(known, index)]
            if len(alike) == 0:
                kept = kept + [index]
        return kept


def surely(kind, facts, routes):
    check_bests(kind, facts, routes)
    runs = Runs(kind, facts, routes)
    return [index for index in range(len(routes)) if runs.is_sure(index)]


def are_enough(kind, facts, routes, indexes):
    check_bests(kind, facts, routes)
    if not is_list(indexes) or len(indexes) == 0 or not is_lot(tuple(indexes), len(routes)):
        raise BadIndexes("indexes are an ascending list of one or more different indexes of routes")
    kept = [routes[index] for index in indexes]
    others = [route for k, route in enumerate(routes) if k not in indexes]
    return all([weights_and_outrun(kind, facts, kept, [route])[1] is None for route in others])


def enough(kind, facts, routes):
    check_bests(kind, facts, routes)
    if agreed_and_quarrel(kind, facts)[0] is None:
        return [0]
    kept = Runs(kind, facts, routes).firsts()
    told = all_bests(kind, facts, [routes[index] for index in kept])
    return [kept[at] for at in told]
