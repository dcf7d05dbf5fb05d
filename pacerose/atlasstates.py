"""What stands in an atlas at a moment: nothing of it is changed, each deed makes another one of it."""

from itertools import combinations

from pacerose.facts import keeps_facts, opposite_of, slack_of
from pacerose.following import derivation_and_counter
from pacerose.leans import lean_fact, lean_facts
from pacerose.quarrels import agreed_and_quarrel
from pacerose.roses import Rose
from pacerose.trips import gathered
from pacerose.vectors import minus


class State:
    """Homes of words, listed entries, questions asked; and a rose of the kind that satisfies all facts."""

    def __init__(self, kind, homes, listed, asked, rose):
        self.kind = kind
        self.homes = homes
        self.listed = listed
        self.asked = asked
        self.rose = rose

    def trip(self, errand):
        homes = self.homes
        return gathered([(minus(homes[stop], homes[start]), count) for start, stop, count in errand])

    def facts_of(self, entry):
        if entry[0] == "fact":
            return [self.fact_of(entry[1:])]
        _, errand, low, high = entry
        return told_between(self.trip(errand), low, high)

    def fact_of(self, claim):
        one, other, extra = claim
        return self.trip(one), self.trip(other), extra

    def all_facts(self):
        return [fact for entry in self.listed for fact in self.facts_of(entry)]

    def lean(self):
        """All facts, as short as can be."""
        return lean_facts(self.kind, self.all_facts())

    def claim(self, name):
        return lean_fact(self.kind, self.fact_of(self.asked[name]))

    def groups(self):
        """The facts of each entry, as short as can be."""
        return [lean_facts(self.kind, self.facts_of(entry)) for entry in self.listed]

    def answer(self, name):
        claim = self.claim(name)
        # The rose keeps the facts: so one of the three answers is out already.
        if slack_of(self.rose, claim)[0] >= 0:
            return "open" if contrary(self.kind, self.lean(), claim, "sure") is not None else "sure"
        return "open" if contrary(self.kind, self.lean(), claim, "no") is not None else "no"


def begun_state(kind):
    return State(kind, {}, (), {}, Rose(kind.size, 1, []))


def told_between(trip, low, high):
    """The facts that the trip takes at least low and, unless it is None, at most high."""
    fact = ((), trip, (-low[0], low[1]))
    return [fact] if high is None else [fact, (trip, (), high)]


def told_just(trip, time):
    fact = (trip, (), time)
    return [opposite_of(fact), fact]


def contrary(kind, facts, claim, told):
    """A rose that satisfies the facts, but shows that they do not tell this of the claim; None if they do."""
    if told == "sure":
        return derivation_and_counter(kind, facts, claim)[1]
    return agreed_and_quarrel(kind, facts if claim is None else [*facts, claim])[0]


def first_lot(kind, groups, claim, told):
    """The first of the shortest lots of groups of facts that tell this of the claim, or, without one, quarrel."""
    roses, many = [], len(groups)
    for length in range(many + 1):
        for lot in combinations(range(many), length):
            facts = [fact for index in lot for fact in groups[index]]
            if any([keeps_facts(rose, facts) for rose in roses]):
                continue
            rose = contrary(kind, facts, claim, told)
            if rose is None:
                return lot
            roses = roses + [rose]
    return None
