"""[63] How much longer one trip can take than another one."""

import unittest
from fractions import Fraction

from pacerose.errors import BadClaim, BadFacts, BadKind, BadTrip, Quarrel
from pacerose.facts import told_facts
from pacerose.following import derivation, follows
from pacerose.kinds import plain_kind
from pacerose.quarrels import agreed
from pacerose.ranges import answer, endless, greatest, is_endless, reaching, stretch
from pacerose.roses import Rose, is_kept
from pacerose.stretches import greatest_time, least_time
from pacerose.trips import trip
from tests.helpers import (BAD_KINDS, ODD, any_rose, check_odd, check_pure, check_refusals, fails, kinds_of, seeded, value)
from tests.test_facts import BAD_FACT, BAD_FACT_LISTS, takes_all
from tests.test_following import BY_HAND, CLAIM, NEVER, QUARREL, any_problem, is_here, oracle_derivation
from tests.test_logs import as_ratio, entries
from tests.test_stretches import check_behind, kept_problem
from tests.test_trips import BAD_TRIPS, TRIP


def agreeing_problem(r, many=None):
    """A kind, facts that agree for it, and two trips."""
    while True:
        kind, facts, claim = any_problem(r, many, r.choice([-3, 0]))
        if agreed(kind, facts) is not None:
            return kind, facts, claim[0], claim[1]


def oracle_endless(kind, facts, one, other, thing):
    if type(thing) is not tuple or len(thing) != 2 or not is_here(kind, facts, thing[0]):
        return False
    growth = thing[1]
    if type(growth) is not Rose or not is_kept(kind, growth):
        return False
    if any(takes_all(growth, here) > takes_all(growth, there) for here, there, _ in facts):
        return False
    return takes_all(growth, one) > takes_all(growth, other)


class RangesTest(unittest.TestCase):
    def test_by_hand(self):
        kind, east, north = plain_kind(2), (((1, 0), 1),), (((0, 1), 1),)
        self.assertEqual(greatest(kind, BY_HAND, (((1, 1), 2),), ()), (10, 1))
        self.assertEqual(stretch(kind, BY_HAND, (((1, 1), 2),)), ((0, 1), (10, 1)))
        self.assertEqual(stretch(kind, BY_HAND, (((-1, 0), 1),)), ((0, 1), None))
        self.assertEqual(stretch(kind, [], ()), ((0, 1), (0, 1)))
        self.assertIsNone(greatest(kind, [], east, north))
        self.assertEqual(greatest(kind, [], (((1, 1), 1),), (*north, *east)), (0, 1))
        self.assertEqual(reaching(kind, [], (), ()), Rose(2, 1, []))
        rose, growth = endless(kind, BY_HAND, (((-1, 0), 1),), ())
        self.assertTrue(oracle_endless(kind, BY_HAND, (((-1, 0), 1),), (), (rose, growth)))
        self.assertIs(is_endless(kind, BY_HAND, (((-1, 0), 1),), (), (Rose(2, 1, [(1, 1)]), Rose(2, 1, [(-1, 0)]))), True)
        self.assertIs(is_endless(kind, BY_HAND, (((-1, 0), 1),), (), (Rose(2, 1, [(1, 4)]), Rose(2, 1, [(-1, 0)]))), False)
        self.assertIs(is_endless(kind, BY_HAND, (((-1, 0), 1),), (), (Rose(2, 1, [(1, 1)]), Rose(2, 1, [(-1, 1)]))), False)
        self.assertEqual(answer(kind, BY_HAND, CLAIM), "open")
        self.assertEqual(answer(kind, BY_HAND, ((((1, 1), 1),), (), (5, 1))), "sure")
        self.assertEqual(answer(kind, BY_HAND, ((), (((1, 1), 1),), (-11, 2))), "no")
        self.assertEqual(answer(kind, QUARREL, CLAIM), "quarrel")
        self.assertEqual(answer(kind, [NEVER], CLAIM), "quarrel")
        self.assertEqual(answer(kind, [], NEVER), "no")

    def check_range(self, kind, facts, one, other):
        told = check_pure(self, greatest, kind, facts, one, other)
        rose, pair = check_pure(self, reaching, kind, facts, one, other), check_pure(self, endless, kind, facts, one, other)
        self.assertEqual((told is None, told is None), (rose is None, pair is not None))
        if told is None:
            self.assertTrue(oracle_endless(kind, facts, one, other, pair))
            self.assertIs(is_endless(kind, facts, one, other, pair), True)
            self.assertFalse(follows(kind, facts, (one, other, (10 ** 9, 1))))
            return True
        self.assertTrue(is_here(kind, facts, rose))
        self.assertEqual(takes_all(rose, one) - takes_all(rose, other), value(told))
        paper = derivation(kind, facts, (one, other, told))
        self.assertTrue(oracle_derivation(kind, facts, (one, other, told), paper))
        self.assertFalse(follows(kind, facts, (one, other, as_ratio(value(told) - Fraction(1, 10 ** 9)))))
        return False

    def test_ranges(self):
        r = seeded(631)
        seen = {True: 0, False: 0}
        for _ in range(200):
            seen[self.check_range(*agreeing_problem(r))] += 1
        self.assertGreater(min(seen.values()), 40)

    def test_halfway(self):
        r = seeded(632)
        for _ in range(60):
            kind, facts, one, other = agreeing_problem(r, 2)
            more = [(here, there, as_ratio(Fraction(*extra) + r.randint(0, 3))) for here, there, extra in facts]
            between = [(here, there, as_ratio((Fraction(*a) + Fraction(*b)) / 2)) for (here, there, a), (_, _, b)
                       in zip(facts, more)]
            told = [greatest(kind, known, one, other) for known in (facts, between, more)]
            if None in told:
                self.assertEqual(told, [None] * 3)
            else:
                low, middle, high = [value(part) for part in told]
                self.assertGreaterEqual(2 * middle, low + high)

    def test_stretches(self):
        r = seeded(633)
        seen = {True: 0, False: 0}
        for _ in range(100):
            kind, facts, gone, _ = agreeing_problem(r)
            least, most = check_pure(self, stretch, kind, facts, gone)
            up, down = greatest(kind, facts, gone, ()), greatest(kind, facts, (), gone)
            self.assertEqual((least, most), ((-down[0], down[1]), up))
            self.assertGreaterEqual(value(least), 0)
            seen[most is None] += 1
            time = takes_all(agreed(kind, facts), gone)
            self.assertTrue(value(least) <= time and (most is None or time <= value(most)))
        self.assertGreater(min(seen.values()), 20)

    def test_logs_are_facts(self):
        r = seeded(634)
        for _ in range(50):
            kind, log, gone = kept_problem(r, 2, 3)
            facts = []
            for step, low, high in entries(log):
                alone = trip(kind.size, [(step, 1)])
                facts.append(((), alone, as_ratio(-low)))
                if high is not None:
                    facts.append((alone, (), as_ratio(high)))
            self.assertEqual(stretch(kind, facts, gone), (least_time(kind, log, gone), greatest_time(kind, log, gone)))

    def test_answers(self):
        r = seeded(635)
        seen = {"quarrel": 0, "sure": 0, "no": 0, "open": 0}
        for _ in range(200):
            kind, facts, claim = any_problem(r, None, r.choice([-3, 0]))
            told = check_pure(self, answer, kind, facts, claim)
            seen[told] += 1
            if agreed(kind, facts) is None:
                self.assertEqual(told, "quarrel")
            elif follows(kind, facts, claim):
                self.assertEqual(told, "sure")
            else:
                self.assertEqual(told, "no" if agreed(kind, [*facts, claim]) is None else "open")
        self.assertGreater(min(seen.values()), 6)

    def test_told_times_settle(self):
        r = seeded(636)
        for _ in range(40):
            kind, _, one, other = agreeing_problem(r, 0)
            rose = any_rose(r, kind.size, 2, 2)
            times = [as_ratio(takes_all(rose, gone)) for gone in (one, other)]
            facts = told_facts(kind.size, [one, other], times)
            if agreed(kind, facts) is not None:
                self.assertEqual(value(greatest(kind, facts, one, other)), takes_all(rose, one) - takes_all(rose, other))

    def test_judge(self):
        r, seen = seeded(637), 0
        while seen < 40:
            kind, facts, one, other = agreeing_problem(r)
            pair = endless(kind, facts, one, other)
            if pair is None:
                for thing in [(agreed(kind, facts), any_rose(r, kind.size, 2)), None]:
                    self.assertIs(is_endless(kind, facts, one, other, thing), oracle_endless(kind, facts, one, other, thing))
                continue
            seen += 1
            for thing in [pair[::-1], list(pair), (*pair, pair[0]), pair[:1], (pair[0], None), (None, pair[1]), (pair[0], pair[0]),
                          (pair[1], pair[1]), (Rose(4 - kind.size, 1, []), pair[1]), (Rose(kind.size, 1, []), pair[1]),
                          (pair[0], Rose(kind.size, 1, [])), (any_rose(r, kind.size, 2), pair[1])]:
                self.assertIs(is_endless(kind, facts, one, other, thing), oracle_endless(kind, facts, one, other, thing))
        check_odd(self, lambda thing: is_endless(plain_kind(2), BY_HAND, (((-1, 0), 1),), (), thing))
        for thing in ODD:
            self.assertIs(is_endless(plain_kind(2), [], TRIP, (), (Rose(2, 1, []), thing)),
                          oracle_endless(plain_kind(2), [], TRIP, (), (Rose(2, 1, []), thing)))

    def test_wrong(self):
        wrong = [("kind", BAD_KINDS, BadKind), ("facts", BAD_FACT_LISTS, BadFacts)]
        both = [("one", BAD_TRIPS, BadTrip), ("other", BAD_TRIPS, BadTrip)]
        good = {"kind": plain_kind(2), "facts": BY_HAND}
        for call, more in ((greatest, {}), (reaching, {}), (endless, {}), (is_endless, {"thing": None})):
            given = {**good, "one": TRIP, "other": (), **more}
            check_refusals(self, call, given, [*wrong, *both])
            check_behind(self, call, {**given, "facts": QUARREL}, [wrong[0], *both], Quarrel)
        trips = ("trip", BAD_TRIPS, BadTrip)
        check_refusals(self, stretch, {**good, "trip": TRIP}, [*wrong, trips])
        check_behind(self, stretch, {**good, "facts": QUARREL, "trip": TRIP}, [wrong[0], trips], Quarrel)
        check_refusals(self, answer, {**good, "claim": CLAIM}, [*wrong, ("claim", BAD_FACT, BadClaim)])
        # Where there is no greatest, too, facts that quarrel are refused.
        for call in (greatest, reaching, endless):
            fails(self, Quarrel, call, plain_kind(2), QUARREL, (((-1, -1), 1),), ())
            fails(self, Quarrel, call, plain_kind(2), [NEVER], (), ())


if __name__ == "__main__":
    unittest.main()
