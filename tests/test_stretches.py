"""[42] Stretches with roofs, floors and climbs, and [43] the greatest rose and tightened logs."""

import unittest
from fractions import Fraction

from pacerose.deals import dealt
from pacerose.errors import BadKind, BadLog, BadRatio, BadTrip, Unkept
from pacerose.kinds import Kind, mirror_kind, plain_kind
from pacerose.logs import is_log, keeps, log_from, log_images, rose_for, shortest_way, way_time
from pacerose.roses import Rose, going
from pacerose.stretches import (climb, floor, greatest_rose, greatest_time, is_climb, is_floor, is_roof, least_time, roof,
                                rose_at, sure_entries, tightened)
from pacerose.sums import rose_kept
from pacerose.trips import total, trip, trip_times
from pacerose.ways import never_slower
from tests.helpers import (BAD_KINDS, BAD_RATIOS, NINE, QUARTER, any_rose, check_judge, check_odd, check_pure,
                           check_refusals, fails, inner, is_int, is_int_row, kinds_of, row_of, seeded, takes, times, value,
                           without_divisor)
from tests.test_claims import oracle_shares
from tests.test_logs import BAD_LOGS, LOG, UNKEPT, any_log, as_ratio, entries, images_of, is_keeper
from tests.test_trips import BAD_TRIPS, TRIP, any_trip


def trip_of(kind, log, counts):
    return trip(kind.size, [(step, count) for (step, _, _), count in zip(entries(log), counts)])


def are_counts(thing, many):
    return is_int_row(thing, many) and all(part >= 0 for part in thing)


def highs(log, costs):
    return sum((cost * high for cost, (_, _, high) in zip(costs, entries(log)) if cost), Fraction(0))


def oracle_costs(log, costs):
    told = entries(log)
    return are_counts(costs, len(told)) and all(not cost or high is not None for cost, (_, _, high) in zip(costs, told))


def oracle_roof(kind, log, gone, ratio, thing):
    if type(thing) is not tuple or len(thing) != 3 or not is_int(thing[0]) or thing[0] < 1:
        return False
    scale, costs, told = thing
    if not oracle_costs(log, costs) or highs(log, costs) / scale != Fraction(*ratio):
        return False
    return oracle_shares(kind, trip_times(kind.size, gone, scale), trip_of(kind, log, costs), told)


def oracle_floor(kind, log, gone, ratio, thing):
    if type(thing) is not tuple or len(thing) != 4 or not is_int(thing[0]) or thing[0] < 1:
        return False
    scale, gains, costs, told = thing
    if not are_counts(gains, len(log)) or not oracle_costs(log, costs):
        return False
    lows = sum((gain * low for gain, (_, low, _) in zip(gains, entries(log))), Fraction(0))
    if (lows - highs(log, costs)) / scale != Fraction(*ratio):
        return False
    pairs = [(step, count * scale) for step, count in gone] + list(trip_of(kind, log, costs))
    return oracle_shares(kind, trip_of(kind, log, gains), trip(kind.size, pairs), told)


def oracle_climb(kind, log, gone, thing):
    if type(thing) is not tuple or len(thing) != 2 or not all(is_int_row(row, kind.size) for row in thing):
        return False
    step, row = thing
    if step not in [known for known, _ in gone] or inner(row, step) <= 0:
        return False
    return all(inner(row, image) <= 0 for image, _ in images_of(kind, log))


def kept_problem(r, most=3, many=None):
    """A kind and a log with a keeper; a trip."""
    while True:
        kind = r.choice(kinds_of(r.randint(1, 3)))
        log = any_log(r, kind, most, many)
        if rose_for(kind, log) is not None:
            gone = any_trip(r, kind.size, 2, r.randint(0, 3))
            if log and r.random() < 0.3:
                gone = trip_of(kind, log, [r.randint(0, 2) for _ in log])
            return kind, log, gone


def check_behind(test, call, good, wrong, error):
    """What is refused behind all other errors: good is right but for that."""
    fails(test, error, call, *good.values())
    fails(test, error, call, **good)
    for name, values, first in wrong:
        for bad in values:
            fails(test, first, call, *{**good, name: bad}.values())


class StretchesTest(unittest.TestCase):
    def test_by_hand(self):
        kind = plain_kind(2)
        self.assertEqual(greatest_time(kind, LOG, TRIP), (13, 1))
        self.assertEqual(least_time(kind, LOG, TRIP), (11, 2))
        self.assertEqual(greatest_time(kind, LOG, ()), (0, 1))
        self.assertEqual(least_time(kind, LOG, ()), (0, 1))
        self.assertIs(is_roof(kind, LOG, (), (0, 1), roof(kind, LOG, ())), True)
        self.assertIs(is_floor(kind, LOG, (), (0, 1), floor(kind, LOG, ())), True)
        self.assertIsNone(greatest_time(kind, LOG, (((-1, 0), 1),)))
        self.assertIsNone(roof(kind, LOG, (((-1, 0), 1),)))
        step, row = climb(kind, LOG, (((-1, 0), 1), ((1, 0), 4)))
        self.assertEqual(step, (-1, 0))
        self.assertTrue(row[0] < 0 and row[1] <= 0 and without_divisor(row))
        self.assertIsNone(climb(kind, LOG, TRIP))
        self.assertEqual(least_time(kind, {}, TRIP), (0, 1))
        self.assertIsNone(greatest_time(kind, {}, TRIP))
        self.assertEqual(rose_at(kind, {}, TRIP, (0, 1)), Rose(2, 1, []))
        self.assertIsNone(rose_at(kind, LOG, TRIP, (14, 1)))
        self.assertIsNone(rose_at(kind, LOG, TRIP, (5, 1)))
        self.assertIsNone(rose_at(kind, LOG, TRIP, (-1, 1)))
        # In size 1 there and back: each entry tells of one way only.
        line = {(2,): (4, 1), (-3,): ((1, 1), (2, 1))}
        self.assertEqual(greatest_time(plain_kind(1), line, (((-1,), 3), ((1,), 1))), (4, 1))
        self.assertEqual(least_time(plain_kind(1), line, (((-1,), 3), ((1,), 1))), (3, 1))

    def test_several_steps_can_take_more_than_each(self):
        # One of the two has to take long, but either may be the short one.
        kind, log = plain_kind(2), {(1, 0): ((0, 1), (9, 1)), (0, 1): ((0, 1), (9, 1)), (1, 1): ((4, 1), None)}
        one, other = (((1, 0), 1),), (((0, 1), 1),)
        self.assertEqual(least_time(kind, log, one), (0, 1))
        self.assertEqual(least_time(kind, log, other), (0, 1))
        self.assertEqual(least_time(kind, log, (*other, *one)), (4, 1))

    def check_stretch(self, kind, log, gone):
        least, greatest = check_pure(self, least_time, kind, log, gone), check_pure(self, greatest_time, kind, log, gone)
        low, high = check_pure(self, floor, kind, log, gone), check_pure(self, roof, kind, log, gone)
        self.assertTrue(oracle_floor(kind, log, gone, least, low), low)
        self.assertIs(is_floor(kind, log, gone, least, low), True)
        self.assertGreaterEqual(value(least), 0)
        climbs = check_pure(self, climb, kind, log, gone)
        self.assertEqual(climbs is None, greatest is not None)
        if greatest is None:
            self.assertIsNone(high)
            self.assertTrue(oracle_climb(kind, log, gone, climbs))
            self.assertIs(is_climb(kind, log, gone, climbs), True)
            self.assertIs(is_climb(kind, log, gone, (climbs[0], times(5, climbs[1]))), True)
            self.assertTrue(without_divisor(climbs[1]))
            ratios = [value(least), value(least) + Fraction(7, 3), value(least) + 1000]
        else:
            self.assertTrue(oracle_roof(kind, log, gone, greatest, high), high)
            self.assertIs(is_roof(kind, log, gone, greatest, high), True)
            told = sum((count * value(way_time(kind, log, shortest_way(kind, log, step))) for step, count in gone), Fraction(0))
            self.assertEqual(value(greatest), told)
            ratios = [value(least), value(greatest), (2 * value(least) + value(greatest)) / 3]
            self.assertIsNone(rose_at(kind, log, gone, as_ratio(value(greatest) + Fraction(1, 99))))
        self.assertIsNone(rose_at(kind, log, gone, as_ratio(value(least) - Fraction(1, 99))))
        for ratio in ratios:
            rose = rose_at(kind, log, gone, as_ratio(ratio))
            self.assertTrue(is_keeper(kind, log, rose))
            self.assertEqual(value(total(rose, gone)), ratio)
        return greatest is None

    def test_stretches(self):
        r = seeded(421)
        seen = {True: 0, False: 0}
        for _ in range(400):
            seen[self.check_stretch(*kept_problem(r))] += 1
        self.assertGreater(min(seen.values()), 80)

    def test_full_logs(self):
        r = seeded(422)
        for _ in range(25):
            self.check_stretch(*kept_problem(r, 3, 8))
        for _ in range(6):
            kind = r.choice(kinds_of(2))
            rose = rose_kept(kind, Rose(2, 7, [row_of(r, 2, NINE) for _ in range(3)]))
            log = log_from(rose, [row_of(r, 2, NINE) for _ in range(4)])
            self.check_stretch(kind, log, any_trip(r, 2, NINE, 2))

    def test_keepers_are_within(self):
        r = seeded(423)
        seen = 0
        for _ in range(300):
            kind, log, gone = kept_problem(r)
            rose = rose_kept(kind, any_rose(r, kind.size, 2))
            for rose in [rose, rose_for(kind, log)]:
                if keeps(rose, log):
                    seen += 1
                    time = value(total(rose, gone))
                    self.assertLessEqual(value(least_time(kind, log, gone)), time)
                    greatest = greatest_time(kind, log, gone)
                    self.assertTrue(greatest is None or time <= value(greatest))
        self.assertGreater(seen, 310)

    def test_judges(self):
        r = seeded(424)
        for _ in range(40):
            kind, log, gone = kept_problem(r, 2, r.randint(1, 2))
            least, greatest = least_time(kind, log, gone), greatest_time(kind, log, gone)
            check_judge(self, lambda thing: is_floor(kind, log, gone, least, thing), floor(kind, log, gone),
                        lambda thing: oracle_floor(kind, log, gone, least, thing))
            self.assertIs(is_floor(kind, log, gone, as_ratio(value(least) + 1), floor(kind, log, gone)), False)
            if greatest is None:
                check_judge(self, lambda thing: is_climb(kind, log, gone, thing), climb(kind, log, gone),
                            lambda thing: oracle_climb(kind, log, gone, thing))
            else:
                check_judge(self, lambda thing: is_roof(kind, log, gone, greatest, thing), roof(kind, log, gone),
                            lambda thing: oracle_roof(kind, log, gone, greatest, thing))
                self.assertIs(is_roof(kind, log, gone, as_ratio(value(greatest) - 1), roof(kind, log, gone)), False)
        kind = plain_kind(2)
        check_odd(self, lambda thing: is_roof(kind, LOG, TRIP, (13, 1), thing))
        check_odd(self, lambda thing: is_floor(kind, LOG, TRIP, (11, 2), thing))
        check_odd(self, lambda thing: is_climb(kind, LOG, (((-1, 0), 1),), thing))
        # Papers may tell more than they have to, or waste some of it.
        self.assertIs(is_roof(kind, LOG, TRIP, (15, 1), (1, (3, 3, 0), (1, ((3, 0), (0, 2))))), True)
        self.assertIs(is_roof(kind, LOG, TRIP, (13, 1), (1, (3, 2, 1), (1, ((3, 0, 0), (0, 0, 2))))), False)
        self.assertIs(is_floor(kind, LOG, TRIP, (0, 1), (1, (0, 0, 0), (0, 0, 0), (1, ()))), True)
        self.assertIs(is_floor(kind, LOG, TRIP, (0, 1), (1, (0, 0, 0), (0, 0, 1), (1, ()))), False)

    def test_wrong(self):
        kind = ("kind", BAD_KINDS, BadKind)
        wrong = [kind, ("log", BAD_LOGS, BadLog)]
        good = {"kind": plain_kind(2), "log": LOG}
        trips = ("trip", BAD_TRIPS, BadTrip)
        ratios = ("ratio", BAD_RATIOS, BadRatio)
        for call in (greatest_time, roof, climb, least_time, floor):
            check_refusals(self, call, {**good, "trip": TRIP}, [*wrong, trips])
            check_behind(self, call, {**good, "log": UNKEPT, "trip": TRIP}, [kind, trips], Unkept)
        check_refusals(self, is_climb, {**good, "trip": TRIP, "thing": 0}, [*wrong, trips])
        check_behind(self, is_climb, {**good, "log": UNKEPT, "trip": TRIP, "thing": 0}, [kind, trips], Unkept)
        for call, more in ((is_roof, {"thing": 0}), (is_floor, {"thing": 0}), (rose_at, {})):
            check_refusals(self, call, {**good, "trip": TRIP, "ratio": (7, 1), **more}, [*wrong, trips, ratios])
            check_behind(self, call, {**good, "log": UNKEPT, "trip": TRIP, "ratio": (7, 1), **more}, [kind, trips, ratios],
                         Unkept)
        for call in (greatest_rose, tightened, sure_entries):
            check_refusals(self, call, good, wrong)
            check_behind(self, call, {**good, "log": UNKEPT}, [kind], Unkept)


class GreatestRosesTest(unittest.TestCase):
    def test_by_hand(self):
        kind = plain_kind(2)
        self.assertIsNone(greatest_rose(kind, LOG))
        self.assertIsNone(greatest_rose(kind, {}))
        square = {(1, 0): (1, 1), (0, 1): ((1, 2), (2, 1))}
        self.assertEqual(greatest_rose(mirror_kind(2), square), Rose(2, 1, [(1, 2), (1, -2), (-1, 2), (-1, -2)]))
        self.assertEqual(greatest_rose(Kind(2, [QUARTER]), {(2, 1): (5, 1)}), Rose(2, 1, [(1, 3), (-3, 1), (3, -1), (-1, -3)]))
        self.assertEqual(greatest_rose(plain_kind(1), {(2,): (1, 1), (-3,): (2, 1)}), Rose(1, 6, [(3,), (-4,)]))
        self.assertEqual(greatest_rose(plain_kind(1), {(2,): (0, 1), (-3,): (0, 1)}), Rose(1, 1, []))
        self.assertIsNone(greatest_rose(plain_kind(1), {(2,): (1, 1), (-3,): ((2, 1), None)}))
        # Nothing may be taken upwards and downwards: the hull is flat.
        flat = {(1, 0, 0): (1, 1), (0, 1, 0): (1, 1), (0, 0, 1): (0, 1)}
        self.assertEqual(greatest_rose(mirror_kind(3), flat), Rose(3, 1, [(1, 1, 0), (1, -1, 0), (-1, 1, 0), (-1, -1, 0)]))

    def test_greatest_roses(self):
        r = seeded(431)
        seen = {True: 0, False: 0}
        while min(seen.values()) < 60:
            kind, log, _ = kept_problem(r, 2, r.choice([2, 4, 6, 8]))
            size = kind.size
            rose = check_pure(self, greatest_rose, kind, log)
            columns = [image for image, _ in log_images(kind, log)]
            goals = [tuple(sign if k == at else 0 for k in range(size)) for at in range(size) for sign in (1, -1)]
            self.assertEqual(rose is None, any(dealt(columns, goal) is None for goal in goals))
            seen[rose is None] += 1
            if rose is None:
                continue
            self.assertTrue(is_keeper(kind, log, rose))
            self.assertTrue(never_slower(rose_for(kind, log), rose))
            for _ in range(8):
                step = row_of(r, size, 4)
                self.assertEqual(value(going(rose, step)), value(way_time(kind, log, shortest_way(kind, log, step))))
                self.assertEqual(total(rose, trip(size, [(step, 1)])), greatest_time(kind, log, trip(size, [(step, 1)])))

    def test_tightened(self):
        r = seeded(432)
        for _ in range(150):
            kind, log, _ = kept_problem(r, 2)
            told = check_pure(self, tightened, kind, log)
            self.assertEqual(list(told), sorted(log))
            self.assertIs(is_log(kind.size, told), True)
            for step, low, high in entries(log):
                alone = trip(kind.size, [(step, 1)])
                self.assertEqual(told[step], (least_time(kind, log, alone), greatest_time(kind, log, alone)))
                self.assertGreaterEqual(value(told[step][0]), low)
                self.assertTrue(high is None or value(told[step][1]) <= high)
            self.assertEqual(tightened(kind, told), told)
            rose = rose_kept(kind, any_rose(r, kind.size, 2))
            for rose in [rose, rose_for(kind, log), rose_for(kind, told)]:
                self.assertEqual(keeps(rose, told), keeps(rose, log))
        self.assertEqual(tightened(plain_kind(2), {(2, 0): ((1, 1), None)}), {(2, 0): ((1, 1), None)})

    def test_sure_entries(self):
        kind = plain_kind(2)
        self.assertEqual(sure_entries(kind, {}), ())
        self.assertEqual(sure_entries(kind, {(1, 0): ((0, 1), None)}), (0,))
        self.assertEqual(sure_entries(kind, {(1, 0): (1, 1), (2, 0): (2, 1)}), (0, 1))
        self.assertEqual(sure_entries(kind, {(1, 0): (1, 1), (2, 0): ((2, 1), (3, 1))}), (1,))
        r = seeded(433)
        seen = 0
        for _ in range(150):
            kind, log, _ = kept_problem(r, 2)
            told = check_pure(self, sure_entries, kind, log)
            found = []
            for j, (step, low, high) in enumerate(entries(log)):
                rest = {other: log[other] for other in log if other != step}
                alone = trip(kind.size, [(step, 1)])
                least, greatest = least_time(kind, rest, alone), greatest_time(kind, rest, alone)
                if value(least) >= low and (high is None or (greatest is not None and value(greatest) <= high)):
                    found.append(j)
            self.assertEqual(told, tuple(found))
            seen += len(told)
        self.assertGreater(seen, 30)


if __name__ == "__main__":
    unittest.main()
