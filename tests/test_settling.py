"""[65] Trips that settle a claim, [66] which of them have to be tried."""

import itertools
import unittest
from fractions import Fraction

from pacerose.errors import BadClaim, BadFacts, BadKind, BadTrips, TooMany
from pacerose.facts import opposite, told_facts
from pacerose.kinds import mirror_kind, plain_kind
from pacerose.quarrels import agreed
from pacerose.ranges import answer
from pacerose.roses import Rose
from pacerose.settling import is_parted, is_settling, parted, settles, settling
from pacerose.sums import rose_kept
from pacerose.trips import total, trip_sum, trip_times
from pacerose.tries import is_stubborn, least_tries, stubborn
from tests.helpers import (BAD_KINDS, NINE, ODD, any_rose, check_judge, check_odd, check_pure, check_refusals, fails, is_int,
                           is_int_row, seeded, without_divisor)
from tests.test_facts import BAD_FACT, BAD_FACT_LISTS, BAD_TRIP_LISTS, any_fact, slack_by_words, takes_all
from tests.test_following import (BY_HAND, CLAIM, NEVER, QUARREL, any_problem, is_here, oracle_derivation, oracle_quarrel)
from tests.test_grounds import least, lots_of
from tests.test_logs import as_ratio
from tests.test_stretches import check_behind
from tests.test_trips import any_trip

EAST, NORTH, BOTH = (((1, 0), 1),), (((0, 1), 1),), (((1, 1), 1),)


def settled_problem(r, many=None):
    """A kind, facts, trips and a claim; often the claim's trips differ by a sum of the trips."""
    kind, facts, claim = any_problem(r, r.randint(0, 3), 0)
    size = kind.size
    trips = [any_trip(r, size, 2, r.randint(0, 2)) for _ in range(r.randint(0, 3) if many is None else many)]
    if trips and r.random() < 0.6:
        one, other = any_trip(r, size, 2, 1), any_trip(r, size, 2, 1)
        claim = (one, other, as_ratio(Fraction(r.randint(-2, 4), r.choice([1, 2]))))
        at = r.randrange(len(trips))
        if r.random() < 0.7:
            trips[at] = trip_sum(size, trip_times(size, one, r.randint(0, 2)), r.choice([other, trips[at], trips[at - 1]]))
        if len(trips) > 1 and r.random() < 0.8:
            trips[at - 1] = r.choice([other, trip_times(size, other, 2), trip_sum(size, other, trips[at])])
    if len(trips) > 1 and r.random() < 0.2:
        trips[0] = trips[-1]
    return kind, facts, trips, claim


def sum_claim(size, trips, claim, scale, numbers, offset):
    one, other = trip_times(size, claim[0], scale), trip_times(size, claim[1], scale)
    for gone, number in zip(trips, numbers):
        if number > 0:
            other = trip_sum(size, other, trip_times(size, gone, number))
        else:
            one = trip_sum(size, one, trip_times(size, gone, -number))
    return one, other, offset


def oracle_settling(kind, facts, trips, claim, thing):
    if type(thing) is not tuple or len(thing) not in (2, 6) or type(thing[0]) is not str:
        return False
    if len(thing) == 2:
        if thing[0] == "quarrel":
            return oracle_quarrel(kind, facts, thing[1])
        claims = {"sure": claim, "opposite": opposite(kind.size, claim)}
        return thing[0] in claims and oracle_derivation(kind, facts, claims[thing[0]], thing[1])
    name, scale, numbers, offset, first, second = thing
    if name != "sum" or not is_int(scale) or scale < 1 or not is_int_row(numbers, len(trips)):
        return False
    if not is_int_row(offset, 2) or offset[1] < 1 or not without_divisor(offset):
        return False
    fact = sum_claim(kind.size, trips, claim, scale, numbers, offset)
    return oracle_derivation(kind, facts, fact, first) and oracle_derivation(kind, facts, opposite(kind.size, fact), second)


def oracle_parted(kind, facts, trips, claim, thing):
    if type(thing) is not tuple or len(thing) != 2 or not all(is_here(kind, facts, rose) for rose in thing):
        return False
    below, above = thing
    if slack_by_words(below, claim) <= 0 or slack_by_words(above, claim) >= 0:
        return False
    return all(takes_all(below, gone) == takes_all(above, gone) for gone in trips)


def oracle_stubborn(kind, facts, trips, claim, thing, lots):
    """lots are just those that do not settle the claim."""
    if type(thing) is not tuple or len(thing) != 2 or type(thing[1]) is not dict or not is_here(kind, facts, thing[0]):
        return False
    rose, table = thing
    if not lots or slack_by_words(rose, claim) != 0 or set(table) != set(lots):
        return False
    if not all(type(lot) is tuple and all(is_int(index) for index in lot) for lot in table):
        return False
    for lot in lots:
        known = [trips[index] for index in lot]
        if not oracle_parted(kind, facts, known, claim, table[lot]):
            return False
        if any(takes_all(rose, gone) != takes_all(table[lot][0], gone) for gone in known):
            return False
    return True


class SettlingTest(unittest.TestCase):
    def test_by_hand(self):
        kind = plain_kind(2)
        claim = (EAST, NORTH, (1, 2))
        self.assertIs(settles(kind, [], [EAST, NORTH], claim), True)
        self.assertEqual(settling(kind, [], [EAST, NORTH], claim)[:4], ("sum", 1, (1, -1), (0, 1)))
        self.assertIsNone(parted(kind, [], [EAST, NORTH], claim))
        self.assertIs(settles(kind, [], [EAST], claim), False)
        self.assertTrue(oracle_parted(kind, [], [EAST], claim, parted(kind, [], [EAST], claim)))
        self.assertIs(is_settling(kind, [], [EAST, NORTH], claim, ("sum", 2, (2, -2), (0, 1),
                                                                   *settling(kind, [], [EAST, NORTH], claim)[4:])), False)
        self.assertIs(is_settling(kind, [], [EAST], ((), (), (0, 1)), ("sure", (1, (), (1, ())))), True)
        self.assertIs(is_settling(kind, [], [EAST], ((), (), (0, 1)), ("opposite", (1, (), (1, ())))), True)
        self.assertIs(is_settling(kind, QUARREL, [EAST], claim, ("quarrel", ((1, 1), (1, ((1,),))))), True)
        self.assertIs(is_settling(kind, QUARREL, [EAST], claim, ("sure", (0, (1, 1), (1, ((1,),))))), True)
        self.assertIs(settles(kind, QUARREL, [], claim), True)
        self.assertIs(settles(kind, [], [], NEVER), True)
        self.assertIs(settles(kind, [], [], claim), False)
        # A told time may take the place of a trip.
        known = told_facts(2, [NORTH], [(3, 1)])
        told = settling(kind, known, [EAST], claim)
        self.assertEqual(told[:4], ("sum", 1, (1,), (-3, 1)))
        self.assertTrue(oracle_settling(kind, known, [EAST], claim, told))

    def check_one_of_both(self, kind, facts, trips, claim):
        told, pair = check_pure(self, settling, kind, facts, trips, claim), check_pure(self, parted, kind, facts, trips, claim)
        self.assertNotEqual(told is None, pair is None)
        self.assertIs(settles(kind, facts, trips, claim), pair is None)
        if told is None:
            self.assertTrue(oracle_parted(kind, facts, trips, claim, pair))
            self.assertIs(is_parted(kind, facts, trips, claim, pair), True)
            return "parted"
        self.assertTrue(oracle_settling(kind, facts, trips, claim, told))
        self.assertIs(is_settling(kind, facts, trips, claim, told), True)
        return told[0]

    def test_one_of_both(self):
        r = seeded(651)
        seen = {"parted": 0, "sum": 0, "sure": 0, "opposite": 0, "quarrel": 0}
        for _ in range(250):
            seen[self.check_one_of_both(*settled_problem(r))] += 1
        for _ in range(20):
            kind, facts, _ = any_problem(r, 5)
            seen[self.check_one_of_both(kind, facts, [], any_fact(r, kind.size))] += 1
        self.assertGreater(min(seen.values()), 1)
        self.assertGreater(min(seen["parted"], seen["sum"]), 12)

    def test_great_numbers(self):
        r = seeded(652)
        for _ in range(10):
            steps = [any_trip(r, 2, NINE, 1) for _ in range(3)]
            claim = (steps[0], steps[1], (r.randint(-NINE, NINE), 1))
            self.check_one_of_both(r.choice([plain_kind(2), mirror_kind(2)]), [(steps[0], (), (NINE, 2))], steps[1:], claim)
            self.check_one_of_both(plain_kind(2), [], [trip_sum(2, *steps[:2]), trip_times(2, steps[1], 7)], claim)

    def test_tried_times_answer(self):
        r, seen = seeded(653), 0
        while seen < 40:
            kind, facts, trips, claim = settled_problem(r)
            rose = agreed(kind, facts)
            if rose is None or not settles(kind, facts, trips, claim):
                continue
            seen += 1
            more = rose_kept(kind, any_rose(r, kind.size, 2))
            for tried in [rose, more]:
                times = [total(tried, gone) for gone in trips]
                known = [*facts, *told_facts(kind.size, trips, times)]
                told = {answer(kind, known, claim), answer(kind, known, opposite(kind.size, claim))}
                self.assertTrue(told & {"sure", "quarrel"})

    def test_judges(self):
        r, seen = seeded(654), [0, 0]
        while min(seen) < 25:
            kind, facts, trips, claim = settled_problem(r)
            told, pair = settling(kind, facts, trips, claim), parted(kind, facts, trips, claim)
            if told is not None and len(told[1] if len(told) == 2 else trips) < 3 and seen[0] < 40:
                seen[0] += 1
                check_judge(self, lambda thing: is_settling(kind, facts, trips, claim, thing), told,
                            lambda thing: oracle_settling(kind, facts, trips, claim, thing))
            if pair is not None:
                seen[1] += 1
                below, above = pair
                for thing in [(above, below), [below, above], (below,), (below, above, below), (below, below), (above, above),
                              (below, None), (any_rose(r, kind.size, 2), above), (below, Rose(4 - kind.size, 1, [])),
                              (Rose(kind.size, 1, []), above), (below, Rose(kind.size, above.scale + 1, above.rows))]:
                    self.assertIs(is_parted(kind, facts, trips, claim, thing), oracle_parted(kind, facts, trips, claim, thing))
                self.assertIs(is_settling(kind, facts, trips, claim, pair), False)
        kind, claim = plain_kind(2), (EAST, NORTH, (1, 2))
        check_odd(self, lambda thing: is_settling(kind, [], [EAST, NORTH], claim, thing))
        check_odd(self, lambda thing: is_parted(kind, [], [EAST], claim, thing))
        for name in ("sum", "sure", "opposite", "quarrel"):
            for thing in ODD:
                self.assertIs(is_settling(kind, [], [EAST, NORTH], claim, (name, thing)), False)

    def test_wrong(self):
        wrong = [("kind", BAD_KINDS, BadKind), ("facts", BAD_FACT_LISTS, BadFacts), ("trips", BAD_TRIP_LISTS, BadTrips),
                 ("claim", BAD_FACT, BadClaim)]
        good = {"kind": plain_kind(2), "facts": BY_HAND, "trips": [EAST] * 9, "claim": CLAIM}
        for call in (settles, settling, parted):
            check_refusals(self, call, good, wrong)
        for call in (is_settling, is_parted):
            check_refusals(self, call, {**good, "thing": None}, wrong)


class TriesTest(unittest.TestCase):
    def test_by_hand(self):
        kind, claim = plain_kind(2), (EAST, NORTH, (1, 2))
        self.assertEqual(least_tries(kind, [], [EAST, BOTH, NORTH], claim), [(0, 2)])
        self.assertEqual(least_tries(kind, [], [EAST, BOTH], claim), [])
        self.assertEqual(least_tries(kind, [], [], claim), [])
        self.assertEqual(least_tries(kind, [], [EAST], NEVER), [()])
        self.assertEqual(least_tries(kind, [], [EAST, EAST, NORTH, NORTH], claim), [(0, 2), (0, 3), (1, 2), (1, 3)])
        self.assertIsNone(stubborn(kind, [], [EAST], NEVER))
        self.assertIsNone(stubborn(kind, QUARREL, [EAST], claim))
        rose, table = stubborn(kind, [], [EAST, BOTH, NORTH], claim)
        self.assertEqual(list(table), [(), (0,), (0, 1), (1,), (1, 2), (2,)])
        self.assertTrue(oracle_stubborn(kind, [], [EAST, BOTH, NORTH], claim, (rose, table), list(table)))
        self.assertEqual(list(stubborn(kind, [], [], claim)[1]), [()])

    def check_tries(self, kind, facts, trips, claim):
        told, found = check_pure(self, least_tries, kind, facts, trips, claim), check_pure(self, stubborn, kind, facts, trips, claim)
        right = {lot: settles(kind, facts, [trips[index] for index in lot], claim) for lot in lots_of(len(trips))}
        self.assertEqual(told, least(right))
        still = sorted(lot for lot in right if not right[lot])
        self.assertEqual(found is None, right[()])
        if found is not None:
            self.assertEqual(list(found[1]), still)
            self.assertTrue(oracle_stubborn(kind, facts, trips, claim, found, still))
            self.assertIs(is_stubborn(kind, facts, trips, claim, found), True)
        else:
            rose = agreed(kind, facts)
            self.assertIs(is_stubborn(kind, facts, trips, claim, (rose, {})), False)
        return found, still

    def test_tries(self):
        r = seeded(661)
        seen = {"none": 0, "some": 0, "least": 0}
        for _ in range(120):
            problem = settled_problem(r)
            found, _ = self.check_tries(*problem)
            seen["none" if found is None else "some"] += 1
            seen["least"] += any(len(lot) > 1 for lot in least_tries(*problem))
        self.assertGreater(min(seen.values()), 5)

    def test_eight_trips(self):
        r = seeded(662)
        steps = [any_trip(r, 2, 2, 1) for _ in range(4)]
        trips = steps + [trip_sum(2, one, other) for one, other in itertools.combinations(steps, 2)][:4]
        claim = (trip_sum(2, steps[0], steps[1]), trip_sum(2, steps[2], steps[3]), (1, 1))
        self.check_tries(plain_kind(2), [(steps[0], (), (9, 1))], trips, claim)

    def test_judge(self):
        r, seen = seeded(663), 0
        while seen < 25:
            kind, facts, trips, claim = settled_problem(r, r.randint(0, 3))
            found = stubborn(kind, facts, trips, claim)
            if found is None:
                continue
            seen += 1
            rose, table = found
            lots = list(table)
            self.assertIs(is_stubborn(kind, facts, trips, claim, (rose, dict(reversed(list(table.items()))))), True)
            other = any_rose(r, kind.size, 2)
            near = [(rose,), [rose, table], (rose, table, 0), (rose, list(table.items())), (rose, None), (None, table),
                    (other, table), (rose, {**table, (0, 1, 2, 3): table[()]}), (rose, {**table, None: 1}), (rose, {}),
                    (rose, {**table, (): table[()][::-1]}), (rose, {**table, (): list(table[()])}), (rose, {**table, (): None}),
                    (rose, {**table, lots[-1]: (other, table[lots[-1]][1])}), (table[()][0], table),
                    (rose, {lot: table[lot] for lot in lots[1:]}), (rose, {lot: table[lot] for lot in lots[:-1]}),
                    (rose, {tuple(bool(index) if index < 2 else index for index in lot): table[lot] for lot in lots}),
                    (rose, {lot: table[()] for lot in lots}), (rose, {lot: table[lots[-1]] for lot in lots}),
                    (rose, {",".join(map(str, lot)): table[lot] for lot in lots})]
            for thing in near:
                self.assertIs(is_stubborn(kind, facts, trips, claim, thing),
                              oracle_stubborn(kind, facts, trips, claim, thing, lots), thing)
        check_odd(self, lambda thing: is_stubborn(plain_kind(2), [], [EAST], (EAST, NORTH, (1, 2)), thing))
        for thing in ODD:
            self.assertIs(is_stubborn(plain_kind(2), [], [EAST], (EAST, NORTH, (0, 1)), (Rose(2, 1, []), thing)), False)

    def test_wrong(self):
        wrong = [("kind", BAD_KINDS, BadKind), ("facts", BAD_FACT_LISTS, BadFacts), ("trips", BAD_TRIP_LISTS, BadTrips),
                 ("claim", BAD_FACT, BadClaim)]
        good = {"kind": plain_kind(2), "facts": BY_HAND, "trips": [EAST], "claim": CLAIM}
        nine = {**good, "trips": [EAST] * 9}
        for call, more in ((least_tries, {}), (stubborn, {}), (is_stubborn, {"thing": None})):
            check_refusals(self, call, {**good, **more}, wrong)
            check_behind(self, call, {**nine, **more}, [wrong[0], wrong[1], wrong[3]], (TooMany, {"most": 8}))
            fails(self, BadTrips, call, plain_kind(2), BY_HAND, [EAST] * 9 + [None], CLAIM, *more.values())
            call(plain_kind(2), BY_HAND * 5, [EAST] * 8, CLAIM, *more.values())


if __name__ == "__main__":
    unittest.main()
