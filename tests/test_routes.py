"""[70] Routes that keep up, [71] the best ones, [72] the safest mix."""

import itertools
import unittest
from fractions import Fraction

from pacerose.bests import are_enough, best_rose, bests, enough, surely
from pacerose.claims import never_longer
from pacerose.errors import BadFacts, BadIndex, BadIndexes, BadKind, BadMix, BadRatio, BadRoutes
from pacerose.factors import least_factor
from pacerose.following import follows
from pacerose.kinds import Kind, mirror_kind, plain_kind
from pacerose.quarrels import agreed
from pacerose.roses import Rose, is_kept
from pacerose.routes import is_outrun, is_weights, keep_up, outrun, weights
from pacerose.safest import mix_shares, safest, trial
from pacerose.sums import rose_kept
from pacerose.trips import trip, trip_sum, trip_times
from tests.helpers import (BAD_KINDS, BAD_RATIOS, LONG, NINE, ODD, QUARTER, any_rose, check_judge, check_odd, check_pure,
                           check_refusals, fails, is_int_row, kinds_of, row_of, seeded, value, without_divisor)
from tests.test_claims import oracle_shares
from tests.test_facts import BAD_FACT_LISTS, any_fact, summed, takes_all
from tests.test_following import BY_HAND, NEVER, QUARREL, is_here
from tests.test_logs import as_ratio
from tests.test_settling import BOTH, EAST, NORTH
from tests.test_trips import TRIP, any_trip

BAD_ROUTES = [None, 5, "ab", {}, [], (), [5], [TRIP, None], TRIP, [[((1, 0), 1)]], [(((1,), 1),)], [(((2, 0), 1),)], [TRIP] * 13,
              [(((1, 0, 0), 1),)]]


def counted(thing, many):
    return is_int_row(thing, many) and all(part >= 0 for part in thing)


def mean_trip(size, trips, numbers):
    whole = ()
    for gone, number in zip(trips, numbers):
        whole = trip_sum(size, whole, trip_times(size, gone, number))
    return whole


def oracle_weights(kind, facts, ones, others, thing):
    if type(thing) is not tuple or len(thing) != 4:
        return False
    ahead, behind, backing, shares = thing
    if not counted(ahead, len(ones)) or not counted(behind, len(others)) or not counted(backing, len(facts)):
        return False
    size, (here, there, extra) = kind.size, summed(kind.size, facts, backing)
    if sum(ahead) != sum(behind) or extra[0] > 0 or (extra[0] == 0 and not any(ahead)):
        return False
    one = trip_sum(size, mean_trip(size, ones, ahead), there)
    return oracle_shares(kind, one, trip_sum(size, mean_trip(size, others, behind), here), shares)


def oracle_outrun(kind, facts, ones, others, thing):
    if not is_here(kind, facts, thing):
        return False
    return min(takes_all(thing, one) for one in ones) > max(takes_all(thing, other) for other in others)


def any_routes(r, size, many):
    """Among them some that are never longer than others, and equal ones."""
    found = []
    for _ in range(many):
        chance = r.random()
        if found and chance < 0.15:
            found.append(r.choice(found))
        elif found and chance < 0.35:
            known = r.choice(found)
            found.append(trip_sum(size, known, any_trip(r, size, 1, 1)))
        elif found and chance < 0.5:
            known = trip_sum(size, r.choice(found), r.choice(found))
            if len(known) > 1:
                (a, m), (b, n) = known[:2]
                known = trip_sum(size, trip(size, [(tuple(x + y for x, y in zip(a, b)), min(m, n))]), known[2:])
            found.append(known)
        else:
            found.append(any_trip(r, size, 2, r.randint(0 if r.random() < 0.2 else 1, 3)))
    return found


def routes_problem(r, low=-1):
    kind = r.choice(kinds_of(r.randint(1, 3)))
    facts = [any_fact(r, kind.size, 2, low) for _ in range(r.choice([0, 0, 1, 2, 3]))]
    return kind, facts


class RoutesTest(unittest.TestCase):
    def test_by_hand(self):
        kind = plain_kind(2)
        self.assertIs(keep_up(kind, [], [BOTH], [(*NORTH, *EAST)]), True)
        self.assertIs(is_weights(kind, [], [BOTH], [(*NORTH, *EAST)], ((1,), (1,), (), (1, ((1, 1),)))), True)
        self.assertIs(is_weights(kind, [], [BOTH], [(*NORTH, *EAST)], ((0,), (0,), (), (1, ()))), False)
        self.assertTrue(oracle_outrun(kind, [], [EAST, BOTH], [NORTH], outrun(kind, [], [EAST, BOTH], [NORTH])))
        # Neither is sure, but one of both is: their mean shows it.
        mirror = mirror_kind(2)
        ones = [(((1, 0), 2),), (((0, 1), 2),)]
        self.assertIs(keep_up(mirror, [], ones, [(*NORTH, *EAST)]), True)
        self.assertIs(is_weights(mirror, [], ones, [(*NORTH, *EAST)], ((1, 1), (2,), (), weights(
            mirror, [], [(((0, 1), 2), ((1, 0), 2))], [(((0, 1), 2), ((1, 0), 2))])[3])), True)
        self.assertIs(never_longer(mirror, ones[0], (*NORTH, *EAST)), False)
        self.assertIs(keep_up(kind, QUARREL, [EAST], [NORTH]), True)
        told = weights(kind, QUARREL, [EAST], [NORTH])
        self.assertTrue(oracle_weights(kind, QUARREL, [EAST], [NORTH], told))
        self.assertIs(is_weights(kind, QUARREL, [EAST], [NORTH], ((0,), (0,), (1, 1), (1, ((1,),)))), True)
        self.assertIs(keep_up(kind, [], [()], [()]), True)
        self.assertIs(keep_up(kind, [], [(), EAST], [NORTH]), True)
        self.assertIs(keep_up(kind, [((), EAST, (-1, 1))], [EAST], [()]), False)
        self.assertIs(keep_up(kind, [], [EAST] * 12, [NORTH] * 12), False)

    def check_one_of_both(self, kind, facts, ones, others):
        told, rose = check_pure(self, weights, kind, facts, ones, others), check_pure(self, outrun, kind, facts, ones, others)
        self.assertNotEqual(told is None, rose is None)
        self.assertIs(keep_up(kind, facts, ones, others), rose is None)
        if rose is None:
            self.assertTrue(oracle_weights(kind, facts, ones, others, told))
            self.assertIs(is_weights(kind, facts, ones, others, told), True)
        else:
            self.assertTrue(oracle_outrun(kind, facts, ones, others, rose))
            self.assertIs(is_outrun(kind, facts, ones, others, rose), True)
        if len(ones) == len(others) == 1:
            self.assertEqual(rose is None, follows(kind, facts, (ones[0], others[0], (0, 1))))
        return rose is None

    def test_one_of_both(self):
        r = seeded(701)
        seen = {True: 0, False: 0}
        for _ in range(200):
            kind, facts = routes_problem(r)
            both = any_routes(r, kind.size, r.randint(2, 6))
            cut = r.randint(1, len(both) - 1)
            told = self.check_one_of_both(kind, facts, both[:cut], both[cut:])
            seen[told] += 1
            if told:
                rose = agreed(kind, facts)
                if rose is not None:
                    self.assertLessEqual(min(takes_all(rose, one) for one in both[:cut]),
                                         max(takes_all(rose, other) for other in both[cut:]))
        self.assertGreater(min(seen.values()), 40)

    def test_great_numbers(self):
        r = seeded(702)
        for _ in range(10):
            steps = [any_trip(r, 2, NINE, 1) for _ in range(4)]
            self.check_one_of_both(plain_kind(2), [(steps[0], (), (NINE, LONG))], steps[:2], steps[2:])
            self.check_one_of_both(Kind(2, [QUARTER]), [], steps[:3], steps[3:])

    def test_judges(self):
        r, seen = seeded(703), [0, 0]
        while min(seen) < 25:
            kind, facts = routes_problem(r)
            both = any_routes(r, kind.size, r.randint(2, 4))
            ones, others = both[:1 + len(both) // 3], both[1 + len(both) // 3:]
            told, rose = weights(kind, facts, ones, others), outrun(kind, facts, ones, others)
            seen[told is None] += 1
            if told is not None and seen[0] < 40:
                check_judge(self, lambda thing: is_weights(kind, facts, ones, others, thing), told,
                            lambda thing: oracle_weights(kind, facts, ones, others, thing))
            if rose is not None:
                for near in [Rose(rose.size, rose.scale, rose.rows[1:]), Rose(rose.size, rose.scale + 1, rose.rows),
                             Rose(rose.size, 1, []), Rose(4 - rose.size, 1, []), any_rose(r, kind.size, 2), rose.rows, None]:
                    self.assertIs(is_outrun(kind, facts, ones, others, near), oracle_outrun(kind, facts, ones, others, near))
        kind, ones, others = mirror_kind(2), [BOTH], [NORTH, EAST]
        check_odd(self, lambda thing: is_weights(kind, BY_HAND, ones, [EAST, (*NORTH, *EAST)], thing))
        check_odd(self, lambda thing: is_outrun(kind, [], ones, others, thing),
                  [thing for thing in ODD if oracle_outrun(kind, [], ones, others, thing)])

    def test_wrong(self):
        wrong = [("kind", BAD_KINDS, BadKind), ("facts", BAD_FACT_LISTS, BadFacts), ("ones", BAD_ROUTES, BadRoutes),
                 ("others", BAD_ROUTES, BadRoutes)]
        good = {"kind": plain_kind(2), "facts": BY_HAND, "ones": [EAST], "others": [NORTH, ()]}
        for call in (keep_up, weights, outrun):
            check_refusals(self, call, good, wrong)
        for call in (is_weights, is_outrun):
            check_refusals(self, call, {**good, "thing": None}, wrong)


class BestsTest(unittest.TestCase):
    def test_by_hand(self):
        kind, both = plain_kind(2), (*NORTH, *EAST)
        self.assertEqual(bests(kind, [], [EAST, NORTH]), [0, 1])
        self.assertEqual(bests(kind, [], [both, BOTH]), [1])
        self.assertEqual(surely(kind, [], [both, BOTH]), [1])
        self.assertEqual(surely(kind, [], [EAST, EAST]), [0, 1])
        self.assertEqual(bests(kind, [], [EAST, EAST]), [])
        self.assertEqual(enough(kind, [], [EAST, EAST]), [0])
        self.assertEqual(enough(kind, [], [both, EAST, NORTH, EAST]), [1, 2])
        self.assertEqual(best_rose(kind, [], [EAST], 0), Rose(2, 1, []))
        self.assertEqual((bests(kind, [], [()]), surely(kind, [], [()]), enough(kind, [], [()])), ([0], [0], [0]))
        # No rose is here.
        self.assertEqual((bests(kind, QUARREL, [EAST, NORTH]), surely(kind, QUARREL, [EAST, NORTH])), ([], [0, 1]))
        self.assertEqual(enough(kind, [NEVER], [EAST, NORTH]), [0])
        self.assertIs(are_enough(kind, QUARREL, [EAST, NORTH], [1]), True)
        self.assertIsNone(best_rose(kind, QUARREL, [EAST], 0))
        self.assertIs(are_enough(kind, [], [both, BOTH, EAST], [1, 2]), True)
        self.assertIs(are_enough(kind, [], [both, BOTH, EAST], (0, 1)), False)
        self.assertIs(are_enough(kind, [], [both, BOTH, EAST], [0, 1, 2]), True)
        # Alike here, but not elsewhere.
        self.assertEqual(enough(kind, [(EAST, NORTH, (0, 1)), (NORTH, EAST, (0, 1))], [NORTH, EAST, BOTH]), [0, 2])
        twelve = [(((k, 1), 1),) for k in range(-6, 6)]
        self.assertEqual(bests(kind, [], twelve), list(range(12)))
        self.assertEqual(enough(mirror_kind(1), [], [(((1,), k),) for k in range(1, 13)]), [0])

    def check_bests(self, kind, facts, routes):
        many, none = range(len(routes)), agreed(kind, facts) is None
        told, sure = check_pure(self, bests, kind, facts, routes), check_pure(self, surely, kind, facts, routes)
        for index in many:
            rose = check_pure(self, best_rose, kind, facts, routes, index)
            self.assertEqual(rose is not None, index in told)
            if rose is not None:
                self.assertTrue(is_here(kind, facts, rose))
                self.assertTrue(all(takes_all(rose, routes[index]) < takes_all(rose, routes[k]) for k in many if k != index))
            elif len(routes) == 1:
                self.assertTrue(none)
            never = all(follows(kind, facts, (routes[index], routes[k], (0, 1))) for k in many)
            self.assertEqual(never, index in sure)
        self.assertEqual((told, sure), (sorted(told), sorted(sure)))
        found = check_pure(self, enough, kind, facts, routes)
        lots = [list(lot) for length in range(1, len(routes) + 1) for lot in itertools.combinations(many, length)]
        right = [lot for lot in lots if are_enough(kind, facts, routes, lot)]
        self.assertEqual(found, right[0])
        self.assertTrue(all(set(told) <= set(lot) for lot in right))
        self.assertEqual(len(found) == 1, len(sure) > 0)
        rose = agreed(kind, facts)
        for lot in right[:3]:
            if rose is not None:
                self.assertEqual(min(takes_all(rose, routes[k]) for k in lot), min(takes_all(rose, gone) for gone in routes))
        alike = any(follows(kind, facts, (routes[a], routes[b], (0, 1))) and follows(kind, facts, (routes[b], routes[a], (0, 1)))
                    for a, b in itertools.combinations(many, 2))
        if not none and not alike:
            self.assertEqual(found, told)
        return len(found)

    def test_bests(self):
        r = seeded(711)
        seen = {1: 0, 2: 0, 3: 0, 4: 0, 5: 0}
        for _ in range(90):
            kind, facts = routes_problem(r, r.choice([-1, 0]))
            seen[self.check_bests(kind, facts, any_routes(r, kind.size, r.randint(1, 4)))] += 1
        self.assertGreater(min(seen[1], seen[2], seen[3]), 2)

    def test_rose_by_rose(self):
        r = seeded(712)
        for _ in range(40):
            kind, facts = routes_problem(r, 0)
            routes = any_routes(r, kind.size, r.randint(2, 6))
            told, sure = enough(kind, facts, routes), surely(kind, facts, routes)
            for _ in range(5):
                rose = rose_kept(kind, any_rose(r, kind.size, 2))
                if is_here(kind, facts, rose):
                    least = min(takes_all(rose, gone) for gone in routes)
                    self.assertEqual(min(takes_all(rose, routes[k]) for k in told), least)
                    self.assertTrue(all(takes_all(rose, routes[k]) == least for k in sure))

    def test_wrong(self):
        wrong = [("kind", BAD_KINDS, BadKind), ("facts", BAD_FACT_LISTS, BadFacts), ("routes", BAD_ROUTES, BadRoutes)]
        good = {"kind": plain_kind(2), "facts": BY_HAND, "routes": [EAST, NORTH]}
        for call in (bests, surely, enough):
            check_refusals(self, call, good, wrong)
        index = [None, -1, 2, True, False, 0.0, "0", (0,), [0], LONG]
        check_refusals(self, best_rose, {**good, "index": 0}, [*wrong, ("index", index, BadIndex)])
        indexes = [None, 5, [], (), [2], [-1], [1, 0], [0, 0], [True], [False], [0.0], "0", {0: 1}, {0}, [None], [[0]], [0, 1, 2]]
        check_refusals(self, are_enough, {**good, "indexes": [0, 1]}, [*wrong, ("indexes", indexes, BadIndexes)])


class SafestTest(unittest.TestCase):
    def test_by_hand(self):
        kind, mirror = plain_kind(2), mirror_kind(2)
        self.assertEqual(safest(kind, [EAST]), ((1, 1), (1,)))
        self.assertEqual(safest(kind, [EAST, ()]), ((0, 1), (0, 1)))
        self.assertEqual(safest(kind, [()]), ((0, 1), (1,)))
        self.assertIsNone(trial(kind, [EAST, ()]))
        self.assertIsNone(safest(kind, [EAST, NORTH]))
        self.assertEqual(safest(mirror, [(((1, 0), 2),), (((1, 0), 3),)]), ((1, 1), (1, 0)))
        # Twice here and once there, or the other way about: half of each is at most half as long again.
        swap = [(((0, 1), 1), ((1, 0), 2)), (((0, 1), 2), ((1, 0), 1))]
        self.assertEqual(safest(kind, swap), ((3, 2), (1, 1)))
        self.assertEqual(mix_shares(kind, [EAST], (1,), (1, 1)), ((1, ((1,),)),))
        self.assertIsNone(mix_shares(kind, swap, (1, 1), (149, 100)))
        self.assertIsNone(mix_shares(kind, swap, (1, 0), (3, 2)))
        self.assertIsNone(mix_shares(kind, swap, (1, 0), (0, 1)))
        self.assertEqual(mix_shares(kind, [EAST, ()], (0, 1), (0, 1)), ((1, ()), (1, ())))
        self.assertEqual(safest(mirror_kind(1), [(((1,), k),) for k in range(1, 13)])[0], (1, 1))

    def check_mix(self, kind, routes, mix, ratio):
        told = check_pure(self, mix_shares, kind, routes, mix, ratio)
        size, one = kind.size, trip_times(kind.size, mean_trip(kind.size, routes, mix), ratio[1])
        others = [trip_times(size, gone, sum(mix) * ratio[0]) for gone in routes]
        right = all(never_longer(kind, one, other) for other in others)
        self.assertEqual(told is not None, right)
        if told is not None:
            self.assertIs(type(told), tuple)
            self.assertEqual(len(told), len(routes))
            self.assertTrue(all(oracle_shares(kind, one, other, shares) for other, shares in zip(others, told)))
        return right

    def check_safest(self, kind, routes):
        told, roses = check_pure(self, safest, kind, routes), check_pure(self, trial, kind, routes)
        if () in routes:
            self.assertEqual((told[0], roses), ((0, 1), None))
            self.assertTrue(self.check_mix(kind, routes, told[1], told[0]))
            return "nothing"
        self.assertTrue(type(roses) is tuple and len(roses) == len(routes))
        self.assertTrue(all(type(rose) is Rose and is_kept(kind, rose) for rose in roses))
        own = sum(takes_all(rose, gone) for rose, gone in zip(roses, routes))
        least = min(sum(takes_all(rose, gone) for rose in roses) for gone in routes)
        if told is None:
            self.assertEqual(own, 0)
            self.assertGreater(least, 0)
            return "none"
        ratio, mix = told
        self.assertTrue(counted(mix, len(routes)) and without_divisor(mix))
        self.assertGreaterEqual(value(ratio), 1)
        self.assertGreater(own, 0)
        self.assertGreaterEqual(least, value(ratio) * own)
        self.assertTrue(self.check_mix(kind, routes, mix, ratio))
        self.assertFalse(self.check_mix(kind, routes, mix, as_ratio(value(ratio) * Fraction(999999, 1000000))))
        factors = [least_factor(kind, mean_trip(kind.size, routes, mix), gone) for gone in routes]
        self.assertEqual(max(value(factor) for factor in factors) / sum(mix), value(ratio))
        return "one" if ratio == (1, 1) else "more"

    def test_safest(self):
        r = seeded(721)
        seen = {"nothing": 0, "none": 0, "one": 0, "more": 0}
        for _ in range(250):
            kind = r.choice(kinds_of(r.randint(1, 3)))
            routes = any_routes(r, kind.size, r.randint(1, 5))
            seen[self.check_safest(kind, routes)] += 1
            mix = tuple(r.randint(0, 2) for _ in routes)
            if without_divisor(mix):
                self.check_mix(kind, routes, mix, as_ratio(Fraction(r.randint(0, 6), r.choice([1, 2]))))
        self.assertGreater(min(seen.values()), 15)

    def test_many_routes_and_great_numbers(self):
        r = seeded(722)
        for kind in (mirror_kind(1), mirror_kind(2), Kind(2, [QUARTER]), mirror_kind(3)):
            self.check_safest(kind, [any_trip(r, kind.size, 2, 2) or any_trip(r, kind.size, 2, 3) for _ in range(12)])
        for _ in range(5):
            self.check_safest(Kind(2, [QUARTER]), [trip(2, [(row_of(r, 2, NINE), r.randint(1, 9))]) for _ in range(3)])

    def test_wrong(self):
        wrong = [("kind", BAD_KINDS, BadKind), ("routes", BAD_ROUTES, BadRoutes)]
        good = {"kind": plain_kind(2), "routes": [EAST, NORTH]}
        check_refusals(self, safest, good, wrong)
        check_refusals(self, trial, good, wrong)
        mixes = [None, 5, (), (1,), (0, 0), (2, 2), (0, 2), (-1, 1), [1, 0], (True, 0), (1.0, 0), (1, 0, 0), ("1", 0), {}]
        check_refusals(self, mix_shares, {**good, "mix": (1, 0), "ratio": (1, 1)},
                       [*wrong, ("mix", mixes, BadMix), ("ratio", [(-1, 2), *BAD_RATIOS], BadRatio)])
        fails(self, BadRoutes, safest, plain_kind(2), [])


if __name__ == "__main__":
    unittest.main()
