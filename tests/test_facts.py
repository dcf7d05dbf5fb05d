"""[60] Facts."""

import unittest
from fractions import Fraction

from pacerose.errors import BadFact, BadFacts, BadKind, BadRose, BadSize, BadTimes, BadTrips, BadWeights
from pacerose.facts import averaged, combined, is_fact, led_facts, opposite, satisfies, slack, told_facts
from pacerose.kinds import mirror_kind, plain_kind
from pacerose.roses import Rose
from pacerose.sums import rose_kept
from pacerose.trips import total, trip_led, trip_sum, trip_times
from tests.helpers import (BAD_KINDS, BAD_RATIOS, BAD_ROSES, BAD_SIZES, LONG, any_rose, check_odd, check_pure,
                           check_refusals, fails, is_int_row, kinds_of, other_kinds, other_numbers, seeded, value,
                           without_divisor)
from tests.test_logs import as_ratio
from tests.test_trips import BAD_TRIPS, TRIP, any_trip
from tests.test_trips import oracle as oracle_trip

FACT = (TRIP, (((1, 1), 1),), (-3, 2))
BAD_FACT = ([None, 5, "abc", (), (TRIP, TRIP), [TRIP, TRIP, (1, 1)], (TRIP, TRIP, (1, 1), 0), (TRIP, TRIP, None),
             ((((1,), 1),), (), (1, 1)), ((((1, 0, 0), 1),), (), (1, 1)), {}]
            + [(bad, TRIP, (1, 1)) for bad in BAD_TRIPS] + [((), bad, (1, 1)) for bad in BAD_TRIPS[::3]]
            + [(TRIP, TRIP, bad) for bad in BAD_RATIOS])
BAD_FACT_LISTS = [None, 5, "ab", {}, FACT, {FACT: 1}] + [[bad] for bad in BAD_FACT] + [[FACT, bad] for bad in BAD_FACT[::5]]
BAD_TRIP_LISTS = [None, 5, "ab", {}, [5], [TRIP, None], TRIP, [[((1, 0), 1)]], [(((1,), 1),)], [(((2, 0), 1),)]]


def any_extra(r, low=-3, high=6):
    return as_ratio(Fraction(r.randint(low, high), r.choice([1, 1, 2, 3])))


def any_fact(r, size, most=2, low=-3, high=6):
    return any_trip(r, size, most, r.randint(0, 2)), any_trip(r, size, most, r.randint(0, 2)), any_extra(r, low, high)


def takes_all(rose, gone):
    return value(total(rose, gone))


def slack_by_words(rose, fact):
    return takes_all(rose, fact[1]) + Fraction(*fact[2]) - takes_all(rose, fact[0])


def oracle_fact(size, thing):
    if type(thing) is not tuple or len(thing) != 3 or not all(oracle_trip(size, part) for part in thing[:2]):
        return False
    return is_int_row(thing[2], 2) and thing[2][1] >= 1 and without_divisor(thing[2])


def summed(size, facts, weights):
    one, other, extra = (), (), Fraction(0)
    for fact, weight in zip(facts, weights):
        one = trip_sum(size, one, trip_times(size, fact[0], weight))
        other = trip_sum(size, other, trip_times(size, fact[1], weight))
        extra += weight * Fraction(*fact[2])
    return one, other, as_ratio(extra)


class FactsTest(unittest.TestCase):
    def test_by_hand(self):
        rose = Rose(2, 2, [(1, 0), (0, 3)])
        self.assertEqual(slack(rose, FACT), (-11, 2))
        self.assertIs(satisfies(rose, []), True)
        self.assertIs(satisfies(rose, [FACT]), False)
        self.assertIs(satisfies(rose, [opposite(2, FACT)]), True)
        self.assertEqual(opposite(2, FACT), ((((1, 1), 1),), TRIP, (3, 2)))
        self.assertEqual(combined(2, [], ()), ((), (), (0, 1)))
        self.assertEqual(combined(2, [FACT], (0,)), ((), (), (0, 1)))
        self.assertEqual(combined(2, [FACT, opposite(2, FACT)], (2, 1)),
                         ((((0, 1), 6), ((1, 0), 4), ((1, 1), 1)), (((0, 1), 3), ((1, 0), 2), ((1, 1), 2)), (-3, 2)))
        self.assertEqual(told_facts(2, [TRIP], [(7, 2)]), [(TRIP, (), (7, 2)), ((), TRIP, (-7, 2))])
        self.assertEqual(told_facts(2, [], []), [])
        mirror = mirror_kind(2)
        gone = (((1, 1), 1),)
        self.assertEqual(led_facts(mirror, [(gone, (), (1, 1)), (gone, (), (1, 1))]),
                         [((((-1, -1), 1),), (), (1, 1)), (gone, (), (1, 1))])
        self.assertEqual(averaged(mirror, (gone, (), (1, 2))), ((((-1, -1), 1), ((1, 1), 1)), (), (1, 1)))

    def test_is_fact(self):
        r = seeded(601)
        for _ in range(60):
            size = r.randint(1, 3)
            fact = any_fact(r, size)
            self.assertIs(is_fact(size, fact), True)
            for near in [*other_kinds(fact), *other_numbers(fact)]:
                self.assertIs(is_fact(size, near), oracle_fact(size, near), near)
            self.assertIs(is_fact(size, (fact[0], fact[1], (LONG, 2 * LONG + 1))), True)
        for bad in BAD_FACT:
            self.assertIs(is_fact(2, bad), False, bad)
        check_odd(self, lambda thing: is_fact(2, thing))

    def test_slack(self):
        r = seeded(602)
        for _ in range(200):
            size = r.randint(1, 3)
            rose, facts = any_rose(r, size), [any_fact(r, size) for _ in range(r.randint(0, 3))]
            for fact in facts:
                told = check_pure(self, slack, rose, fact)
                self.assertEqual(value(told), slack_by_words(rose, fact))
                self.assertEqual(check_pure(self, opposite, size, fact), (fact[1], fact[0], (-fact[2][0], fact[2][1])))
                self.assertEqual(value(slack(rose, opposite(size, fact))), -slack_by_words(rose, fact))
            self.assertIs(check_pure(self, satisfies, rose, facts), all(slack_by_words(rose, fact) >= 0 for fact in facts))

    def test_combined(self):
        r = seeded(603)
        for _ in range(200):
            size = r.randint(1, 3)
            facts = [any_fact(r, size) for _ in range(r.randint(0, 4))]
            weights = tuple(r.choice([0, 1, 2, 7, LONG]) for _ in facts)
            told = check_pure(self, combined, size, facts, weights)
            self.assertEqual(told, summed(size, facts, weights))
            rose = any_rose(r, size, 2)
            if satisfies(rose, facts):
                self.assertGreaterEqual(slack_by_words(rose, told), 0)

    def test_told(self):
        r = seeded(604)
        for _ in range(100):
            size = r.randint(1, 3)
            trips = [any_trip(r, size) for _ in range(r.randint(0, 3))]
            rose = any_rose(r, size, 2)
            times = [total(rose, gone) for gone in trips]
            told = check_pure(self, told_facts, size, trips, times)
            self.assertEqual(told, [fact for gone, (a, b) in zip(trips, times) for fact in
                                    ((gone, (), (a, b)), ((), gone, (-a, b)))])
            self.assertIs(satisfies(rose, told), True)
            other = any_rose(r, size, 2)
            self.assertIs(satisfies(other, told), all(total(other, gone) == time for gone, time in zip(trips, times)))

    def test_kinds(self):
        r = seeded(605)
        for _ in range(100):
            size = r.randint(1, 3)
            kind, facts = r.choice(kinds_of(size)), [any_fact(r, size) for _ in range(r.randint(0, 3))]
            facts += facts[:1]
            told, found = check_pure(self, led_facts, kind, facts), []
            for one, other, extra in facts:
                for table in kind.tables:
                    fact = (trip_led(size, one, table), trip_led(size, other, table), extra)
                    if fact not in found:
                        found.append(fact)
            self.assertEqual(told, found)
            for fact in facts:
                middle = check_pure(self, averaged, kind, fact)
                self.assertEqual(middle, summed(size, [(trip_led(size, fact[0], table), trip_led(size, fact[1], table), fact[2])
                                                       for table in kind.tables], [1] * len(kind)))
                rose = rose_kept(kind, any_rose(r, size, 2))
                self.assertEqual(slack_by_words(rose, middle), len(kind) * slack_by_words(rose, fact))

    def test_wrong(self):
        rose = Rose(2, 1, [(1, 0)])
        sizes, facts = ("size", BAD_SIZES, BadSize), ("facts", BAD_FACT_LISTS, BadFacts)
        check_refusals(self, is_fact, {"size": 2, "thing": FACT}, [sizes])
        check_refusals(self, slack, {"rose": rose, "fact": FACT}, [("rose", BAD_ROSES, BadRose), ("fact", BAD_FACT, BadFact)])
        check_refusals(self, satisfies, {"rose": rose, "facts": [FACT]}, [("rose", BAD_ROSES, BadRose), facts])
        check_refusals(self, opposite, {"size": 2, "fact": FACT}, [sizes, ("fact", BAD_FACT, BadFact)])
        weights = [None, 5, (), (1, 2), (-1,), [1], (True,), (1.0,), ("1",), "1"]
        check_refusals(self, combined, {"size": 2, "facts": [FACT], "weights": (1,)}, [sizes, facts, ("weights", weights, BadWeights)])
        times = [None, 5, [], [(1, 1), (1, 1)], (1, 1), {}, [None], *[[bad] for bad in BAD_RATIOS]]
        check_refusals(self, told_facts, {"size": 2, "trips": [TRIP], "times": [(1, 1)]},
                       [sizes, ("trips", BAD_TRIP_LISTS, BadTrips), ("times", times, BadTimes)])
        kinds = ("kind", BAD_KINDS, BadKind)
        check_refusals(self, led_facts, {"kind": plain_kind(2), "facts": [FACT]}, [kinds, facts])
        check_refusals(self, averaged, {"kind": plain_kind(2), "fact": FACT}, [kinds, ("fact", BAD_FACT, BadFact)])
        fails(self, BadFact, slack, Rose(1, 1, []), FACT)
        fails(self, BadFacts, satisfies, Rose(3, 1, []), [FACT])


if __name__ == "__main__":
    unittest.main()
