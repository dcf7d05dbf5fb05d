"""[93] Winds that keep a log, [94] what a log says of gaps and drifts."""

import unittest
from fractions import Fraction

from pacerose.drifts import (drift_stretch, is_windy_floor, is_windy_quarrel, least_gap, wind_at, wind_for, windy_floor,
                             windy_quarrel)
from pacerose.errors import BadLog, BadRatio, BadSize, BadStep, BadTrip, Windless
from pacerose.kinds import mirror_kind, plain_kind
from pacerose.logs import keeps, rose_for
from pacerose.roses import Rose
from pacerose.trips import back, trip, trip_sum, trip_times
from pacerose.winds import Wind, blown, drift, wind_going, wind_total
from tests.helpers import (BAD_RATIOS, BAD_SIZES, NINE, check_judge, check_odd, check_pure, check_refusals, inner, is_int, row_of,
                           seeded, times, value)
from tests.test_claims import oracle_shares
from tests.test_logs import BAD_LOGS, BAD_STEPS, LOG, any_log, as_ratio, entries, keeps_log
from tests.test_stretches import are_counts, check_behind, highs, oracle_costs, trip_of
from tests.test_trips import BAD_TRIPS, TRIP, any_trip
from tests.test_winds import any_wind, oracle_one_more

BY_HAND = {(1,): (3, 1), (-1,): (1, 1)}
# There and back takes less than there twice as far and back.
WINDLESS = {(1, 0): (1, 1), (-1, 0): (1, 1), (2, 0): ((5, 1), None)}


def lows(log, gains):
    return sum((gain * low for gain, (_, low, _) in zip(gains, entries(log))), Fraction(0))


def oracle_quarrel(size, log, thing):
    if type(thing) is not tuple or len(thing) != 3 or not are_counts(thing[0], len(log)) or not oracle_costs(log, thing[1]):
        return False
    gains, costs, told = thing
    kind = mirror_kind(size)
    one, other = trip_of(kind, log, gains), trip_of(kind, log, costs)
    return lows(log, gains) > highs(log, costs) and oracle_shares(kind, oracle_one_more(size, one, other), other, told)


def oracle_floor(size, log, one, other, ratio, thing):
    if type(thing) is not tuple or len(thing) != 4 or not is_int(thing[0]) or thing[0] < 1:
        return False
    scale, gains, costs, told = thing
    if not are_counts(gains, len(log)) or not oracle_costs(log, costs):
        return False
    if (lows(log, gains) - highs(log, costs)) / scale != Fraction(*ratio):
        return False
    kind = mirror_kind(size)
    here = trip_sum(size, trip_times(size, other, scale), trip_of(kind, log, gains))
    there = trip_sum(size, trip_times(size, one, scale), trip_of(kind, log, costs))
    return oracle_shares(kind, oracle_one_more(size, here, there), there, told)


def windy_log(r, size, many=None, most=3):
    """What a wind takes, or about so."""
    wind, log = any_wind(r, size, most), {}
    for _ in range(r.randint(0, 4) if many is None else many):
        step = row_of(r, size, most)
        if any(step):
            time = value(wind_going(wind, step))
            low, high = max(Fraction(0), time - r.randint(0, 2)), time + r.randint(0, 2)
            log[step] = r.choice([as_ratio(time), as_ratio(time), (as_ratio(low), as_ratio(high)), (as_ratio(low), None),
                                  ((0, 1), as_ratio(high))])
            if r.random() < 0.3 and len(log) < 7:
                log[times(-1, step)] = wind_going(wind, times(-1, step))
    return wind, log


def kept_problem(r, many=None, most=3):
    size = r.randint(1, 3)
    wind, log = windy_log(r, size, many, most)
    one, other = any_trip(r, size, 2, r.randint(0, 2)), any_trip(r, size, 2, r.randint(0, 2))
    if log and r.random() < 0.4:
        one = trip_of(mirror_kind(size), log, [r.randint(0, 2) for _ in log])
    return size, wind, log, one, other


def gap(wind, one, other):
    return value(wind_total(wind, one)) - value(wind_total(wind, other))


class WindForTest(unittest.TestCase):
    def test_by_hand(self):
        self.assertEqual(wind_for(1, BY_HAND), Wind(Rose(1, 1, [(2,), (-2,)]), 1, (1,)))
        self.assertIsNone(windy_quarrel(1, BY_HAND))
        self.assertIsNone(wind_for(2, WINDLESS))
        self.assertTrue(oracle_quarrel(2, WINDLESS, windy_quarrel(2, WINDLESS)))
        self.assertIs(is_windy_quarrel(2, WINDLESS, windy_quarrel(2, WINDLESS)), True)
        self.assertEqual(wind_for(3, {}), Wind(Rose(3, 1, []), 1, (0, 0, 0)))
        # No rose that is mirrored keeps this one, but a wind does.
        self.assertIsNone(rose_for(mirror_kind(1), BY_HAND))
        # Three ways around take more than they take turned about: no wind blows so.
        turning = {(1, 0): (2, 1), (0, 1): (2, 1), (-1, -1): (2, 1), (-1, 0): (1, 1), (0, -1): (1, 1), (1, 1): (1, 1)}
        self.assertIsNone(wind_for(2, turning))
        self.assertIsNotNone(rose_for(plain_kind(2), turning))

    def test_wind_or_quarrel(self):
        r, seen = seeded(931), {True: 0, False: 0}
        for _ in range(400):
            size = r.randint(1, 3)
            wind, log = windy_log(r, size)
            kept = True
            if r.random() < 0.7:
                kept, log = False, any_log(r, r.choice([plain_kind(size), mirror_kind(size)]), 2, r.randint(0, 5))
            told, quarrel = check_pure(self, wind_for, size, log), check_pure(self, windy_quarrel, size, log)
            turned = dict(reversed(log.items()))
            self.assertEqual((wind_for(size, turned), windy_quarrel(size, turned)), (told, quarrel))
            self.assertNotEqual(told is None, quarrel is None)
            seen[told is None] += 1
            if told is None:
                self.assertFalse(kept)
                self.assertTrue(oracle_quarrel(size, log, quarrel))
                self.assertIs(is_windy_quarrel(size, log, quarrel), True)
                self.assertIsNone(rose_for(mirror_kind(size), log))
            else:
                self.assertIs(type(told), Wind)
                self.assertTrue(keeps(blown(told), log) and keeps_log(blown(told), log))
                self.assertIsNotNone(rose_for(plain_kind(size), log))
        self.assertGreater(min(seen.values()), 15)

    def test_great_numbers(self):
        r = seeded(932)
        for _ in range(10):
            size = r.randint(1, 3)
            wind, log = windy_log(r, size, 4, NINE)
            self.assertTrue(keeps(blown(wind_for(size, log)), log))

    def test_judge(self):
        r, seen = seeded(933), 0
        while seen < 15:
            size = r.randint(1, 3)
            log = any_log(r, plain_kind(size), 2, r.randint(2, 4))
            told = windy_quarrel(size, log)
            if told is not None:
                seen += 1
                check_judge(self, lambda thing: is_windy_quarrel(size, log, thing), told, lambda thing: oracle_quarrel(size, log, thing))
        # Right shares that tell nothing: what is gained is just what it costs, or less.
        self.assertIs(is_windy_quarrel(2, WINDLESS, ((0, 0, 0), (0, 0, 0), (1, ()))), False)
        self.assertIs(is_windy_quarrel(2, LOG, ((0, 0, 0), (1, 0, 0), (1, ((0, 1),)))), False)
        once = {(1, 0): (1, 1)}
        self.assertIs(is_windy_quarrel(2, once, ((1,), (1,), (1, ((0, 1),)))), False)
        self.assertTrue(oracle_shares(mirror_kind(2), (((1, 0), 1),), (((1, 0), 1),), (1, ((0, 1),))))
        check_odd(self, lambda thing: is_windy_quarrel(2, WINDLESS, thing))
        check_odd(self, lambda thing: is_windy_quarrel(2, LOG, thing))

    def test_wrong(self):
        wrong = [("size", BAD_SIZES, BadSize), ("log", BAD_LOGS, BadLog)]
        for call in (wind_for, windy_quarrel):
            check_refusals(self, call, {"size": 2, "log": LOG}, wrong)
        check_refusals(self, is_windy_quarrel, {"size": 2, "log": LOG, "thing": None}, wrong)


class GapsTest(unittest.TestCase):
    def test_by_hand(self):
        self.assertEqual(drift_stretch(1, BY_HAND, (2,)), ((2, 1), (2, 1)))
        self.assertEqual(drift_stretch(1, BY_HAND, (0,)), ((0, 1), (0, 1)))
        self.assertEqual(drift_stretch(2, {}, (1, 0)), (None, None))
        self.assertEqual(drift_stretch(1, {(1,): (3, 1)}, (1,)), (None, (3, 2)))
        self.assertEqual(drift_stretch(1, {(1,): (3, 1), (-1,): ((0, 1), (1, 1))}, (-1,)), ((-3, 2), (-1, 1)))
        ahead, home = (((1,), 1),), (((-1,), 1),)
        self.assertEqual((least_gap(1, BY_HAND, ahead, home), least_gap(1, BY_HAND, home, ahead)), ((2, 1), (-2, 1)))
        self.assertIsNone(least_gap(1, {}, ahead, home))
        self.assertIsNone(windy_floor(1, {}, ahead, home))
        self.assertEqual(least_gap(1, {}, ahead, ()), (0, 1))
        self.assertEqual(wind_at(1, {}, ahead, home, (0, 1)) is None, False)

    def test_gaps(self):
        r, seen = seeded(941), {}
        for _ in range(300):
            size, wind, log, one, other = kept_problem(r)
            least, floor = check_pure(self, least_gap, size, log, one, other), check_pure(self, windy_floor, size, log, one, other)
            most = check_pure(self, least_gap, size, log, other, one)
            seen[(least is None, most is None)] = seen.get((least is None, most is None), 0) + 1
            self.assertEqual(least is None, floor is None)
            self.assertEqual(least_gap(size, dict(reversed(log.items())), one, other), least)
            told = gap(wind, one, other)
            if least is not None:
                self.assertTrue(oracle_floor(size, log, one, other, least, floor))
                self.assertIs(is_windy_floor(size, log, one, other, least, floor), True)
                self.assertLessEqual(value(least), told)
            if most is not None:
                self.assertLessEqual(told, -value(most))
            self.check_at(r, size, log, one, other, None if least is None else value(least), None if most is None else -value(most))
        self.assertEqual(len(seen), 4)
        self.assertGreater(min(seen.values()), 20)

    def check_at(self, r, size, log, one, other, least, most):
        tried = [Fraction(r.randint(-30, 30), r.choice([1, 2, 3]))]
        if least is not None:
            tried += [least, least - Fraction(1, 1000)]
        if most is not None:
            tried += [most, most + Fraction(1, 1000)]
        if least is not None and most is not None:
            tried.append((2 * least + most) / 3)
        for ratio in tried:
            told = check_pure(self, wind_at, size, log, one, other, as_ratio(ratio))
            within = (least is None or least <= ratio) and (most is None or ratio <= most)
            self.assertEqual(told is not None, within)
            if told is not None:
                self.assertTrue(keeps_log(blown(told), log))
                self.assertEqual(gap(told, one, other), ratio)

    def test_drift_stretch(self):
        r = seeded(942)
        for _ in range(200):
            size, wind, log, _, _ = kept_problem(r)
            step = row_of(r, size, 3)
            low, high = check_pure(self, drift_stretch, size, log, step)
            ahead = trip(size, [(step, 1)])
            least, most = least_gap(size, log, ahead, back(size, ahead)), least_gap(size, log, back(size, ahead), ahead)
            self.assertEqual(low is None, least is None)
            self.assertEqual(high is None, most is None)
            told = value(drift(wind, step))
            if low is not None:
                self.assertTrue(2 * value(low) == value(least) and value(low) <= told)
            if high is not None:
                self.assertTrue(2 * value(high) == -value(most) and told <= value(high))
            if any(step):
                both = {**{key: log[key] for key in list(log)[:6]}, step: wind_going(wind, step), times(-1, step): wind_going(wind, times(-1, step))}
                exact = as_ratio(Fraction(inner(wind.row, step), wind.scale))
                self.assertEqual(drift_stretch(size, both, step), (exact, exact))

    def test_judge(self):
        r, seen = seeded(943), 0
        while seen < 15:
            size, wind, log, one, other = kept_problem(r, 2, 2)
            floor = windy_floor(size, log, one, other)
            if floor is not None and (one or other):
                seen += 1
                least = least_gap(size, log, one, other)
                check_judge(self, lambda thing: is_windy_floor(size, log, one, other, least, thing), floor,
                            lambda thing: oracle_floor(size, log, one, other, least, thing))
                more = as_ratio(value(least) + 1)
                self.assertIs(is_windy_floor(size, log, one, other, more, floor), False)
        check_odd(self, lambda thing: is_windy_floor(2, LOG, TRIP, (), (1, 1), thing))

    def test_wrong(self):
        good = {"size": 2, "log": LOG, "one": TRIP, "other": (((1, 1), 2),)}
        wrong = [("size", BAD_SIZES, BadSize), ("log", BAD_LOGS, BadLog), ("one", BAD_TRIPS, BadTrip), ("other", BAD_TRIPS, BadTrip)]
        ratio = ("ratio", BAD_RATIOS, BadRatio)
        for call in (least_gap, windy_floor):
            check_refusals(self, call, good, wrong)
            check_behind(self, call, {**good, "log": WINDLESS}, wrong, Windless)
        check_refusals(self, wind_at, {**good, "ratio": (1, 2)}, [*wrong, ratio])
        check_behind(self, wind_at, {**good, "log": WINDLESS, "ratio": (1, 2)}, [*wrong, ratio], Windless)
        check_refusals(self, is_windy_floor, {**good, "ratio": (1, 2), "thing": None}, [*wrong, ratio])
        check_behind(self, is_windy_floor, {**good, "log": WINDLESS, "ratio": (1, 2), "thing": None}, [*wrong, ratio], Windless)
        step = [*wrong[:2], ("step", BAD_STEPS, BadStep)]
        check_refusals(self, drift_stretch, {"size": 2, "log": LOG, "step": (0, 0)}, step)
        check_behind(self, drift_stretch, {"size": 2, "log": WINDLESS, "step": (1, 0)}, step, Windless)


if __name__ == "__main__":
    unittest.main()
