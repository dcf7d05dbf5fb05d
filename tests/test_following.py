"""[61] Quarrels, [62] what follows from facts."""

import unittest
from fractions import Fraction

from pacerose.claims import never_longer
from pacerose.errors import BadClaim, BadFacts, BadKind
from pacerose.facts import averaged, led_facts, opposite, satisfies, told_facts
from pacerose.following import counter, derivation, follows, is_counter, is_derivation
from pacerose.kinds import Kind, mirror_kind, plain_kind
from pacerose.quarrels import agreed, is_quarrel, quarrel
from pacerose.roses import Rose, is_kept
from pacerose.trips import total, trip_led, trip_sum, trip_times
from tests.helpers import (BAD_KINDS, LONG, NINE, ODD, QUARTER, any_rose, check_judge, check_odd, check_pure, check_refusals,
                           cube_kind, is_int, is_int_row, kinds_of, seeded, value)
from tests.test_claims import oracle_shares
from tests.test_facts import (BAD_FACT, BAD_FACT_LISTS, FACT, any_extra, any_fact, slack_by_words, summed)
from tests.test_logs import as_ratio
from tests.test_trips import any_trip

NEVER = ((), (), (-1, 1))
BY_HAND = [((((1, 0), 1),), (), (2, 1)), ((((0, 1), 1),), (), (3, 1))]
CLAIM = ((((1, -1), 1),), (), (5, 1))
# The first trip takes at least 3, and at most 2.
QUARREL = [((), (((1, 0), 1),), (-3, 1)), ((((1, 0), 1),), (), (2, 1))]


def is_here(kind, facts, thing):
    return type(thing) is Rose and is_kept(kind, thing) and all(slack_by_words(thing, fact) >= 0 for fact in facts)


def are_weights(facts, thing):
    return is_int_row(thing, len(facts)) and all(part >= 0 for part in thing)


def oracle_quarrel(kind, facts, thing):
    if type(thing) is not tuple or len(thing) != 2 or not are_weights(facts, thing[0]):
        return False
    one, other, extra = summed(kind.size, facts, thing[0])
    return extra[0] < 0 and oracle_shares(kind, other, one, thing[1])


def oracle_derivation(kind, facts, claim, thing):
    if type(thing) is not tuple or len(thing) != 3 or not is_int(thing[0]) or thing[0] < 0:
        return False
    weight, weights, shares = thing
    if not are_weights(facts, weights):
        return False
    size, (here, there, extra) = kind.size, summed(kind.size, facts, weights)
    over = Fraction(*extra) - weight * Fraction(*claim[2])
    if over > 0 or (weight == 0 and over == 0):
        return False
    one = trip_sum(size, trip_times(size, claim[0], weight), there)
    return oracle_shares(kind, one, trip_sum(size, trip_times(size, claim[1], weight), here), shares)


def oracle_counter(kind, facts, claim, thing):
    return is_here(kind, facts, thing) and slack_by_words(thing, claim) < 0


def any_problem(r, many=None, low=-3):
    """A kind, facts and a claim, in all ways that they can stand to one another."""
    kind = r.choice(kinds_of(r.randint(1, 3)))
    size = kind.size
    facts = [any_fact(r, size, 2, low) for _ in range(r.randint(0, 5) if many is None else many)]
    chance = r.random()
    if facts and chance < 0.15:
        gone = any_trip(r, size, 2, 2)
        facts[:1] = told_facts(size, [gone], [any_extra(r, 0)])[:len(facts)]
    if facts and chance > 0.75:
        weights = [r.randint(0, 2) for _ in facts]
        one, other, extra = summed(size, facts, weights)
        claim = (one, other, as_ratio(Fraction(*extra) + r.randint(-1, 1)))
        return kind, facts, claim if r.random() < 0.6 else opposite(size, claim)
    return kind, facts, any_fact(r, size)


class QuarrelsTest(unittest.TestCase):
    def test_by_hand(self):
        kind = plain_kind(2)
        self.assertEqual(agreed(kind, []), Rose(2, 1, []))
        self.assertIsNone(quarrel(kind, []))
        self.assertIsNone(agreed(kind, QUARREL))
        self.assertIs(is_quarrel(kind, QUARREL, ((1, 1), (1, ((1,),)))), True)
        self.assertIs(is_quarrel(kind, QUARREL, ((2, 2), (1, ((2,),)))), True)
        self.assertIs(is_quarrel(kind, QUARREL, ((2, 3), (1, ((2,),)))), False)
        self.assertIs(is_quarrel(kind, QUARREL, ((0, 0), (1, ()))), False)
        self.assertIs(is_quarrel(kind, [NEVER], ((1,), (1, ()))), True)
        self.assertIsNone(agreed(kind, [NEVER]))
        self.assertIsNone(quarrel(kind, BY_HAND))
        # Nobody goes there and back in less than nothing, but there alone is nothing else.
        there = [((), (((1, 0), 1),), (-3, 1)), ((((-1, 0), 1),), (), (1, 1))]
        self.assertTrue(is_here(kind, there, agreed(kind, there)))
        self.assertTrue(oracle_quarrel(mirror_kind(2), there, quarrel(mirror_kind(2), there)))

    def check_one_of_both(self, kind, facts):
        rose, told = check_pure(self, agreed, kind, facts), check_pure(self, quarrel, kind, facts)
        self.assertNotEqual(rose is None, told is None)
        if told is None:
            self.assertTrue(is_here(kind, facts, rose))
        else:
            self.assertTrue(oracle_quarrel(kind, facts, told))
            self.assertIs(is_quarrel(kind, facts, told), True)
        self.assertIs(follows(kind, facts, NEVER), rose is None)
        return rose is None

    def test_one_of_both(self):
        r = seeded(611)
        seen = {True: 0, False: 0}
        for _ in range(300):
            kind, facts, _ = any_problem(r)
            seen[self.check_one_of_both(kind, facts)] += 1
        self.assertGreater(min(seen.values()), 80)

    def test_more_facts_and_great_numbers(self):
        r = seeded(612)
        for _ in range(10):
            kind = r.choice(kinds_of(2) + [cube_kind()])
            self.check_one_of_both(kind, [any_fact(r, kind.size, 1) for _ in range(7)])
            facts = [(any_trip(r, kind.size, NINE, 1), any_trip(r, kind.size, NINE, 1), (r.randint(-NINE, NINE), LONG))
                     for _ in range(3)]
            self.check_one_of_both(kind, [fact for fact in facts if fact[2][0] % 7])

    def test_kinds(self):
        r = seeded(613)
        for _ in range(80):
            kind, facts, _ = any_problem(r, r.randint(1, 3))
            plain = agreed(plain_kind(kind.size), led_facts(kind, facts)) is None
            self.assertEqual(agreed(kind, facts) is None, plain)

    def test_judge(self):
        r, seen = seeded(614), 0
        while seen < 25:
            kind, facts, _ = any_problem(r, r.randint(1, 3))
            told = quarrel(kind, facts)
            if told is not None:
                seen += 1
                check_judge(self, lambda thing: is_quarrel(kind, facts, thing), told,
                            lambda thing: oracle_quarrel(kind, facts, thing))
        check_odd(self, lambda thing: is_quarrel(plain_kind(2), QUARREL, thing))
        check_odd(self, lambda thing: is_quarrel(plain_kind(2), [], thing))

    def test_wrong(self):
        wrong = [("kind", BAD_KINDS, BadKind), ("facts", BAD_FACT_LISTS, BadFacts)]
        for call in (agreed, quarrel):
            check_refusals(self, call, {"kind": plain_kind(2), "facts": QUARREL}, wrong)
        check_refusals(self, is_quarrel, {"kind": plain_kind(2), "facts": QUARREL, "thing": 0}, wrong)


class FollowingTest(unittest.TestCase):
    def test_by_hand(self):
        kind = mirror_kind(2)
        told = (1, (1, 1), (1, ((0, 1, 0, 1),)))
        self.assertIs(follows(kind, BY_HAND, CLAIM), True)
        self.assertIs(is_derivation(kind, BY_HAND, CLAIM, told), True)
        self.assertTrue(oracle_derivation(kind, BY_HAND, CLAIM, derivation(kind, BY_HAND, CLAIM)))
        self.assertIsNone(counter(kind, BY_HAND, CLAIM))
        less = (CLAIM[0], (), (49, 10))
        self.assertIsNone(derivation(kind, BY_HAND, less))
        self.assertTrue(oracle_counter(kind, BY_HAND, less, counter(kind, BY_HAND, less)))
        self.assertIs(follows(plain_kind(2), BY_HAND, CLAIM), False)
        # Whatever follows from facts that quarrel: there is a derivation of weight 0.
        self.assertIs(is_derivation(plain_kind(2), QUARREL, CLAIM, (0, (1, 1), (1, ((1,),)))), True)
        self.assertIs(is_derivation(plain_kind(2), QUARREL, CLAIM, (0, (2, 3), (1, ((2,),)))), False)
        self.assertIs(is_derivation(kind, [], ((), (), (0, 1)), (1, (), (1, ()))), True)
        self.assertIs(is_derivation(kind, [], ((), (), (0, 1)), (0, (), (1, ()))), False)
        self.assertIs(follows(kind, [], ((), (), (-1, 5))), False)
        self.assertIs(is_counter(kind, [], ((), (), (-1, 5)), Rose(2, 1, [])), True)

    def check_one_of_both(self, kind, facts, claim):
        told, rose = check_pure(self, derivation, kind, facts, claim), check_pure(self, counter, kind, facts, claim)
        self.assertNotEqual(told is None, rose is None)
        self.assertIs(follows(kind, facts, claim), rose is None)
        if rose is None:
            self.assertTrue(oracle_derivation(kind, facts, claim, told), told)
            self.assertIs(is_derivation(kind, facts, claim, told), True)
        else:
            self.assertTrue(oracle_counter(kind, facts, claim, rose))
            self.assertIs(is_counter(kind, facts, claim, rose), True)
        return rose is None

    def test_one_of_both(self):
        r = seeded(621)
        seen = {True: 0, False: 0}
        for _ in range(400):
            kind, facts, claim = any_problem(r, None, r.choice([-3, 0]))
            told = self.check_one_of_both(kind, facts, claim)
            seen[told] += 1
            if told:
                rose = agreed(kind, facts)
                self.assertTrue(rose is None or slack_by_words(rose, claim) >= 0)
        self.assertGreater(min(seen.values()), 120)

    def test_great_numbers(self):
        r = seeded(622)
        for _ in range(20):
            kind, facts, claim = any_problem(r, r.randint(0, 3), 0)
            great = [(one, other, as_ratio(Fraction(*extra) * LONG)) for one, other, extra in [*facts, claim]]
            self.assertEqual(self.check_one_of_both(kind, great[:-1], great[-1]), follows(kind, facts, claim))
            steps = [any_trip(r, kind.size, NINE, 1) for _ in range(4)]
            self.check_one_of_both(kind, [(steps[0], steps[1], (NINE, 7)), (steps[1], (), (NINE, 2))], (*steps[2:], (1, NINE)))

    def test_facts(self):
        r = seeded(623)
        for _ in range(120):
            kind, facts, claim = any_problem(r, r.randint(0, 3), r.choice([-3, 0]))
            size, told = kind.size, follows(kind, facts, claim)
            self.assertEqual(follows(kind, [], claim), claim[2][0] >= 0 and never_longer(kind, claim[0], claim[1]))
            self.assertEqual(follows(plain_kind(size), led_facts(kind, facts), averaged(kind, claim)), told)
            if told:
                for wider in kinds_of(size):
                    if set(kind.tables) <= set(wider.tables):
                        self.assertTrue(follows(wider, facts, claim))
                self.assertTrue(follows(kind, facts + [any_fact(r, size)], claim))
                table = r.choice(kind.tables)
                self.assertTrue(follows(kind, facts, (trip_led(size, claim[0], table), claim[1], claim[2])))
            for fact in facts:
                self.assertTrue(follows(kind, facts, fact))

    def test_told_times(self):
        r = seeded(624)
        for _ in range(60):
            kind = r.choice(kinds_of(r.randint(1, 2)))
            trips = [any_trip(r, kind.size, 2, 2) for _ in range(2)]
            rose = any_rose(r, kind.size, 2, 3)
            facts = told_facts(kind.size, trips, [total(rose, gone) for gone in trips])
            both = trip_sum(kind.size, *trips)
            time = as_ratio(value(total(rose, both)))
            self.assertIs(follows(kind, facts, (both, (), time)), True)
            self.assertIs(follows(kind, facts, ((), both, (-time[0], time[1]))), True)
            self.assertEqual(satisfies(rose, facts), True)

    def test_judges(self):
        r = seeded(625)
        for _ in range(40):
            kind, facts, claim = any_problem(r, r.randint(0, 2))
            told, rose = derivation(kind, facts, claim), counter(kind, facts, claim)
            if rose is None:
                check_judge(self, lambda thing: is_derivation(kind, facts, claim, thing), told,
                            lambda thing: oracle_derivation(kind, facts, claim, thing))
            else:
                for near in [Rose(rose.size, rose.scale, rose.rows[1:]), Rose(rose.size, 7, rose.rows), Rose(rose.size, 1, []),
                             any_rose(r, kind.size, 2), Rose(4 - rose.size, 1, []), rose.rows, None]:
                    self.assertIs(is_counter(kind, facts, claim, near), oracle_counter(kind, facts, claim, near))
        check_odd(self, lambda thing: is_derivation(mirror_kind(2), BY_HAND, CLAIM, thing))
        for kind in (plain_kind(2), Kind(2, [QUARTER])):
            check_odd(self, lambda thing: is_counter(kind, BY_HAND, CLAIM, thing),
                      [thing for thing in ODD if oracle_counter(kind, BY_HAND, CLAIM, thing)])

    def test_wrong(self):
        wrong = [("kind", BAD_KINDS, BadKind), ("facts", BAD_FACT_LISTS, BadFacts), ("claim", BAD_FACT, BadClaim)]
        good = {"kind": plain_kind(2), "facts": [FACT], "claim": CLAIM}
        for call in (follows, derivation, counter):
            check_refusals(self, call, good, wrong)
        for call in (is_derivation, is_counter):
            check_refusals(self, call, {**good, "thing": None}, wrong)


if __name__ == "__main__":
    unittest.main()
