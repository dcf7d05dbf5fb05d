"""Which of the facts a claim rests on, and which of them quarrel."""

from itertools import combinations

from pacerose.errors import BadLot, TooMany
from pacerose.facts import check_kind_and_facts, combined_fact, slack_of
from pacerose.following import check_claim, check_following, derivation_and_counter
from pacerose.forms import is_lot

NEVER = ((), (), (-1, 1))


def check_many(things):
    if len(things) > 8:
        raise TooMany(8)


def is_within(lot, other):
    return all([index in other for index in lot])


class Grounds:
    """From which facts a claim follows, with what is known of it from searches made already."""

    def __init__(self, kind, facts, claim):
        self.kind = kind
        self.facts = facts
        self.claim = claim
        self.enough = []
        self.lacking = []

    def follows(self, lot):
        """Whether the claim follows from the facts of the lot."""
        if any([is_within(known, lot) for known in self.enough]):
            return True
        if any([is_within(lot, known) for known in self.lacking]):
            return False
        told, rose = derivation_and_counter(self.kind, [self.facts[index] for index in lot], self.claim)
        if told is None:
            # The claim follows from none of all facts that this rose satisfies.
            self.lacking.append([k for k, fact in enumerate(self.facts) if slack_of(rose, fact)[0] >= 0])
            return False
        self.enough.append([index for index, weight in zip(lot, told[1]) if weight > 0])
        return True

    def least(self):
        """All lots from which it follows, while it does from no lesser part of them."""
        found, many = [], len(self.facts)
        for length in range(many + 1):
            for lot in combinations(range(many), length):
                if not any([is_within(known, lot) for known in found]) and self.follows(lot):
                    found = found + [lot]
        return sorted(found)

    def greatest_lacking(self):
        """All lots from which it does not follow, while it does from each greater one around them."""
        found, many = [], len(self.facts)
        for length in range(many, -1, -1):
            for lot in combinations(range(many), length):
                if not any([is_within(lot, known) for known in found]) and not self.follows(lot):
                    found = found + [lot]
        return sorted(found)


def least_grounds(kind, facts, claim):
    check_following(kind, facts, claim)
    check_many(facts)
    return Grounds(kind, facts, claim).least()


def check_few_facts(kind, facts):
    check_kind_and_facts(kind, facts)
    check_many(facts)


def least_quarrels(kind, facts):
    check_few_facts(kind, facts)
    return Grounds(kind, facts, NEVER).least()


def greatest_lots(kind, facts):
    check_few_facts(kind, facts)
    return Grounds(kind, facts, NEVER).greatest_lacking()


def follows_from(kind, facts, lot, at):
    """Whether the fact at the index follows from those of the lot."""
    return derivation_and_counter(kind, [facts[index] for index in lot], facts[at])[1] is None


def needless(kind, facts):
    check_few_facts(kind, facts)
    many = len(facts)
    return [at for at in range(many) if follows_from(kind, facts, [k for k in range(many) if k != at], at)]


def lean(kind, facts):
    check_few_facts(kind, facts)
    left = list(range(len(facts)))
    for at in range(len(facts)):
        others = [k for k in left if k != at]
        if follows_from(kind, facts, others, at):
            left = others
    return tuple(left)


def bridge(kind, facts, lot, claim):
    check_kind_and_facts(kind, facts)
    if not is_lot(lot, len(facts)):
        raise BadLot("a lot is an ascending tuple of different indexes of facts")
    check_claim(kind, claim)
    check_many(facts)
    told = derivation_and_counter(kind, facts, claim)[0]
    if told is None:
        return None
    return combined_fact([facts[index] for index in lot], [told[1][index] for index in lot])
