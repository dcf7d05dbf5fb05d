"""Whether the times of some trips settle a claim, for roses that satisfy facts.

Some roses are gathered. As long as in them the claim's trips differ by a fixed sum of the times of the trips, it is
asked whether this follows from the facts; a rose that shows the contrary is gathered, too. If they differ by no such
sum, two middles of the gathered roses are alike in the trips, but not in the claim.
"""

from pacerose.facts import check_kind_and_facts, check_trips, opposite_of, slack_of, weighted_trip
from pacerose.following import check_claim, derivation_and_counter, right_derivation
from pacerose.forms import is_number, is_pair, is_ratio, is_scale
from pacerose.middles import middle
from pacerose.quarrels import is_rose_here, right_quarrel
from pacerose.searches import shared_below, steps_in, whole
from pacerose.simplex import deal_or_dam, sparse
from pacerose.trips import whole_time
from pacerose.vectors import lowest, times


def check_settling(kind, facts, trips, claim):
    check_kind_and_facts(kind, facts)
    check_trips(kind.size, trips)
    check_claim(kind, claim)


def sum_fact(trips, claim, scale, numbers, offset):
    """That the claim's trips, scale times, differ by at most the offset and the trips times their numbers."""
    one = weighted_trip([claim[0], *trips], [scale] + [max(0, -number) for number in numbers])
    other = weighted_trip([claim[1], *trips], [scale] + [max(0, number) for number in numbers])
    return one, other, offset


def settled_at_once(kind, facts, claim):
    """A settling that no trip has to be tried for, and roses found: if there is none, one above and one below."""
    told, above = derivation_and_counter(kind, facts, claim)
    if told is not None:
        return (("quarrel", told[1:]) if told[0] == 0 else ("sure", told)), []
    told, below = derivation_and_counter(kind, facts, opposite_of(claim))
    return None if told is None else ("opposite", told), [above, below]


class Trials:
    """Trips that are tried for a claim that nothing settles at once; some of the roses lie above, some below."""

    def __init__(self, kind, facts, trips, claim, roses):
        self.kind = kind
        self.facts = facts
        self.trips = trips
        self.claim = claim
        self.roses = list(roses)

    def fitted(self, lot):
        """A deal of the claim's difference in all roses by the trips of the lot and a fixed time, or a dam."""
        rows = [[whole_time(rose, self.trips[index]) for rose in self.roses] for index in lot]
        scales, columns = [rose.scale for rose in self.roses], []
        for row in [*rows, scales]:
            columns.extend([sparse(row), sparse(times(-1, row))])
        one, other, _ = self.claim
        goal = [whole_time(rose, one) - whole_time(rose, other) for rose in self.roses]
        return deal_or_dam(columns, tuple(goal))

    def sum_for(self, lot):
        """The settling by a sum of just the trips of the lot; None if they do not settle the claim."""
        trips = [self.trips[index] for index in lot]
        while True:
            deal = self.fitted(lot)[0]
            if deal is None:
                return None
            scale, counts = deal
            told = [ahead - back for ahead, back in zip(counts[::2], counts[1::2])]
            numbers, offset = tuple(told[:-1]), (told[-1], 1)
            fact = sum_fact(trips, self.claim, scale, numbers, offset)
            first, rose = derivation_and_counter(self.kind, self.facts, fact)
            if rose is None:
                second, rose = derivation_and_counter(self.kind, self.facts, opposite_of(fact))
                if rose is None:
                    return "sum", scale, numbers, offset, first, second
            self.roses.append(rose)

    def even_weights(self):
        """A number from 1 on for each rose: with these the middle of them all has no slack at the claim."""
        slacks = [slack_of(rose, self.claim) for rose in self.roses]
        unit = shared_below(slacks)
        told = [whole(slack, unit) for slack in slacks]
        left = sum(told)
        if left == 0:
            return [1] * len(told)
        against = min(told) if left > 0 else max(told)
        weights = [abs(against)] * len(told)
        weights[told.index(against)] += abs(left)
        return weights

    def weighted(self, numbers):
        """The middle of all roses with these weights: exact for all steps of the facts, the trips and the claim."""
        all_trips = [fact[0] for fact in self.facts] + [fact[1] for fact in self.facts]
        steps = steps_in([*all_trips, *self.trips, self.claim[0], self.claim[1]])
        together = sum(numbers)
        told = [(lowest(number, together), rose) for number, rose in zip(numbers, self.roses)]
        return middle(self.kind, list(steps), told)

    def parted(self, lot):
        """Roses below and above the claim, both alike in the trips of the lot: it must not settle the claim."""
        turns = [turn * rose.scale for turn, rose in zip(self.fitted(lot)[1], self.roses)]
        even = self.even_weights()
        # So many times the even weights that none gets below 0 by what is put to them, or taken away.
        many = max([-(-abs(turn) // weight) for turn, weight in zip(turns, even)])
        below = [many * weight - turn for weight, turn in zip(even, turns)]
        above = [many * weight + turn for weight, turn in zip(even, turns)]
        return self.weighted(below), self.weighted(above)


def settling_and_parted(kind, facts, trips, claim):
    """The pair of a settling and None, or of None and parted roses."""
    told, roses = settled_at_once(kind, facts, claim)
    if told is not None:
        return told, None
    trials, lot = Trials(kind, facts, trips, claim, roses), list(range(len(trips)))
    told = trials.sum_for(lot)
    return (None, trials.parted(lot)) if told is None else (told, None)


def settles(kind, facts, trips, claim):
    check_settling(kind, facts, trips, claim)
    return settling_and_parted(kind, facts, trips, claim)[1] is None


def settling(kind, facts, trips, claim):
    check_settling(kind, facts, trips, claim)
    return settling_and_parted(kind, facts, trips, claim)[0]


def parted(kind, facts, trips, claim):
    check_settling(kind, facts, trips, claim)
    return settling_and_parted(kind, facts, trips, claim)[1]


def right_sum(kind, facts, trips, claim, thing):
    _, scale, numbers, offset, first, second = thing
    if not is_scale(scale) or not isinstance(numbers, tuple) or len(numbers) != len(trips) or not is_ratio(offset):
        return False
    if not all([is_number(number) for number in numbers]):
        return False
    fact = sum_fact(trips, claim, scale, numbers, offset)
    return right_derivation(kind, facts, fact, first) and right_derivation(kind, facts, opposite_of(fact), second)


def is_settling(kind, facts, trips, claim, thing):
    check_settling(kind, facts, trips, claim)
    if not isinstance(thing, tuple) or len(thing) not in (2, 6) or not isinstance(thing[0], str):
        return False
    if len(thing) == 6:
        return thing[0] == "sum" and right_sum(kind, facts, trips, claim, thing)
    if thing[0] == "quarrel":
        return right_quarrel(kind, facts, thing[1])
    if thing[0] == "sure":
        return right_derivation(kind, facts, claim, thing[1])
    return thing[0] == "opposite" and right_derivation(kind, facts, opposite_of(claim), thing[1])


def are_alike(one, other, trip):
    """Whether the trip takes equally long in both roses."""
    return whole_time(one, trip) * other.scale == whole_time(other, trip) * one.scale


def right_parted(kind, facts, trips, claim, thing):
    if not is_pair(thing) or not all([is_rose_here(kind, facts, rose) for rose in thing]):
        return False
    below, above = thing
    if slack_of(below, claim)[0] <= 0 or slack_of(above, claim)[0] >= 0:
        return False
    return all([are_alike(below, above, trip) for trip in trips])


def is_parted(kind, facts, trips, claim, thing):
    check_settling(kind, facts, trips, claim)
    return right_parted(kind, facts, trips, claim, thing)
