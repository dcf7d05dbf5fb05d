"""[90] Winds, [91] lopsided triples, [92] what holds for all winds."""

import unittest
from fractions import Fraction

from pacerose.claims import compared, folded, never_longer
from pacerose.errors import BadDrift, BadRose, BadRow, BadScale, BadSize, BadStep, BadTrip, BadWind
from pacerose.kinds import Kind, mirror_kind, plain_kind
from pacerose.roses import Rose
from pacerose.rounds import compared_windy, is_windy_bar, is_windy_shares, one_more, windy_bar, windy_shares
from pacerose.sums import rose_kept
from pacerose.trips import back, end, total, trip, trip_sum
from pacerose.winds import Wind, blown, drift, is_lopsided, lopsided, wind_going, wind_of, wind_total
from tests.helpers import (BAD_ROSES, BAD_SCALES, BAD_SIZES, LONG, NINE, ODD, SHEAR, any_rose, check_judge, check_odd, check_pure,
                           check_refusals, inner, is_int_row, plus, row_of, rows_of, seeded, takes, times, value,
                           without_divisor)
from tests.test_claims import oracle_shares
from tests.test_trips import TRIP, any_trip

CROSS = Rose(2, 1, [(1, 0), (-1, 0), (0, 1), (0, -1)])
BAD_WINDS = [None, 5, "wind", CROSS, (CROSS, 1, (0, 0)), Wind, {}, object(), plain_kind(2)]
BAD_STEPS = [None, 5, "ab", (), (1,), (1, 0, 0), [1, 0], (True, 0), (1.0, 0), {}]
BAD_TRIPS = [None, 5, [], (((2, 0), 1),), (((1,), 1),), (((1, 0), 0),), TRIP[0] if TRIP else 5, [((1, 0), 1)]]


def mirrored(r, size, rows=None, most=3):
    rows = rows_of(r, size, r.randint(0, 4) if rows is None else rows, most)
    return rose_kept(mirror_kind(size), Rose(size, r.randint(1, 3), rows))


def any_wind(r, size, most=3):
    """A drift within the hull, often on its rim."""
    rose = mirrored(r, size, most=most)
    corners = list(rose.rows) or [(0,) * size]
    one, other = r.choice(corners), r.choice(corners)
    share = r.randint(0, 4)
    row = plus(times(share, one), times(4 - share, other))
    return Wind(rose, 4 * rose.scale, row)


def wind_takes(wind, step):
    return takes(wind.rose, step) + Fraction(inner(wind.row, step), wind.scale)


class WindsTest(unittest.TestCase):
    def test_by_hand(self):
        wind = Wind(CROSS, 2, (2, 0))
        self.assertEqual((wind.rose, wind.scale, wind.row, list(vars(wind))), (CROSS, 1, (1, 0), ["rose", "scale", "row"]))
        self.assertEqual((wind_going(wind, (3, 1)), wind_going(wind, (-3, 1)), drift(wind, (-3, 1))), ((6, 1), (0, 1), (-3, 1)))
        self.assertEqual(blown(wind), Rose(2, 1, [(2, 0), (1, 1), (1, -1)]))
        self.assertEqual(vars(Wind(CROSS, 7, (0, 0)))["scale"], 1)
        self.assertEqual(wind_of(Rose(2, 1, [(2, 0), (1, 1), (1, -1)])), wind)
        self.assertIsNone(wind_of(Rose(2, 1, [(1, 0), (0, 1)])))
        self.assertEqual(wind_of(Rose(1, 2, [(3,), (-1,)])), Wind(Rose(1, 1, [(1,), (-1,)]), 2, (1,)))
        self.assertEqual(wind_of(Rose(3, 1, [])), Wind(Rose(3, 1, []), 1, (0, 0, 0)))
        self.assertTrue(Wind(CROSS, 2, (1, 1)) == Wind(CROSS, 4, (2, 2)))
        self.assertFalse(Wind(CROSS, 2, (1, 1)) == Wind(CROSS, 2, (1, 0)))
        self.assertFalse(Wind(CROSS, 2, (1, 0)) == Wind(CROSS, 3, (1, 0)))
        self.assertFalse(Wind(CROSS, 1, (0, 0)) == Wind(Rose(2, 1, []), 1, (0, 0)))
        self.assertFalse(Wind(CROSS, 1, (0, 0)) == CROSS)

    def refused(self, rose, scale, row):
        with self.assertRaises(BadDrift) as caught:
            Wind(rose, scale, row)
        step = caught.exception.step
        self.assertEqual(vars(caught.exception), {"step": step})
        self.assertTrue(is_int_row(step, rose.size) and without_divisor(step))
        self.assertLess(takes(rose, step) + Fraction(inner(row, step), scale), 0)

    def test_just_as_much_and_one_more(self):
        Wind(CROSS, 1, (0, -1))
        self.refused(CROSS, 1, (1, 1))
        self.refused(Rose(2, 1, []), 5, (0, 1))
        r = seeded(901)
        for _ in range(200):
            wind = any_wind(r, r.randint(1, 3), r.choice([3, NINE]))
            rose, scale = wind.rose, wind.scale
            # A corner of the hull is as much as the rose lets; a bit more is too much.
            for row in rose.rows[:2]:
                Wind(rose, rose.scale, row)
                self.refused(rose, 1000 * rose.scale, tuple(1001 * part for part in row))
            row = row_of(r, rose.size, 5)
            held = all(inner(row, step) + scale * takes(rose, step) >= 0 for step in self.probes(rose, row))
            try:
                self.assertEqual(Wind(rose, scale, row).rose, rose)
            except BadDrift:
                self.refused(rose, scale, row)
                continue
            self.assertTrue(held)

    def probes(self, rose, row):
        return [row, times(-1, row), *rose.rows]

    def test_going(self):
        r = seeded(902)
        for _ in range(200):
            size = r.randint(1, 3)
            wind = any_wind(r, size)
            rose = check_pure(self, blown, wind)
            for step in rows_of(r, size, 5, 5):
                self.assertEqual(value(wind_going(wind, step)), wind_takes(wind, step))
                self.assertEqual(value(drift(wind, step)), Fraction(inner(wind.row, step), wind.scale))
                self.assertEqual(takes(rose, step), wind_takes(wind, step))
                self.assertGreaterEqual(wind_takes(wind, step), 0)
            gone = any_trip(r, size, 3, r.randint(0, 4))
            told = check_pure(self, wind_total, wind, gone)
            self.assertEqual(value(told), sum(count * wind_takes(wind, step) for step, count in gone))
            self.assertEqual(told, total(rose, gone))
            there_and_back = trip_sum(size, gone, back(size, gone))
            self.assertEqual(value(wind_total(wind, there_and_back)), 2 * value(total(wind.rose, gone)))
            home = trip_sum(size, gone, trip(size, [(times(-1, end(size, gone)), 1)]))
            self.assertEqual(wind_total(wind, home), total(wind.rose, home))
            self.assertEqual(check_pure(self, wind_of, rose), wind)
            self.assertIsNone(lopsided(rose))

    def test_wind_or_lopsided(self):
        r, seen = seeded(903), {}
        for _ in range(300):
            size = r.randint(1, 3)
            rose = any_rose(r, size, r.choice([1, 2, 5, NINE]), r.randint(0, 6)) if r.random() < 0.7 else blown(any_wind(r, size))
            wind, told = check_pure(self, wind_of, rose), check_pure(self, lopsided, rose)
            self.assertNotEqual(wind is None, told is None)
            seen[(size, wind is None)] = seen.get((size, wind is None), 0) + 1
            if wind is None:
                self.assertTrue(self.oracle_lopsided(rose, told))
                self.assertIs(is_lopsided(rose, told), True)
            else:
                self.assertEqual(blown(wind), rose)
                self.assertIs(is_lopsided(rose, tuple(self.triple(r, size))), False)
        self.assertEqual(sorted(seen), [(1, False), (2, False), (2, True), (3, False), (3, True)])
        self.assertGreater(min(seen.values()), 20)

    def triple(self, r, size):
        one, other = rows_of(r, size, 2, 5)
        return one, other, times(-1, plus(one, other))

    def oracle_lopsided(self, rose, thing):
        if type(thing) is not tuple or len(thing) != 3 or not all(is_int_row(step, rose.size) for step in thing):
            return False
        if plus(plus(thing[0], thing[1]), thing[2]) != (0,) * rose.size:
            return False
        return sum(takes(rose, step) for step in thing) != sum(takes(rose, times(-1, step)) for step in thing)

    def test_judge(self):
        r, seen = seeded(904), 0
        while seen < 20:
            rose = any_rose(r, r.choice([2, 3]), 4)
            told = lopsided(rose)
            if told is not None:
                seen += 1
                check_judge(self, lambda thing: is_lopsided(rose, thing), told, lambda thing: self.oracle_lopsided(rose, thing))
        check_odd(self, lambda thing: is_lopsided(Rose(2, 1, [(1, 0), (0, 1)]), thing))
        self.assertIs(is_lopsided(Rose(2, 1, [(1, 0), (0, 1)]), ((1, 0), (0, 1), (-1, -1))), True)

    def test_wrong(self):
        unlike = [Rose(2, 1, [(1, 0)]), Rose(1, 1, [(1,), (-2,)]), Rose(3, 1, [(1, 0, 0), (0, 1, 0)])]
        check_refusals(self, Wind, {"rose": CROSS, "scale": 2, "row": (1, 0)}, [
            ("rose", BAD_ROSES + unlike, BadRose), ("scale", BAD_SCALES, BadScale), ("row", BAD_STEPS, BadRow)])
        check_refusals(self, wind_going, {"wind": Wind(CROSS, 2, (1, 0)), "step": (0, 0)}, [
            ("wind", BAD_WINDS, BadWind), ("step", BAD_STEPS, BadStep)])
        check_refusals(self, drift, {"wind": Wind(CROSS, 2, (1, 0)), "step": (0, 0)}, [
            ("wind", BAD_WINDS, BadWind), ("step", BAD_STEPS, BadStep)])
        check_refusals(self, wind_total, {"wind": Wind(CROSS, 2, (1, 0)), "trip": TRIP}, [
            ("wind", BAD_WINDS, BadWind), ("trip", BAD_TRIPS, BadTrip)])
        check_refusals(self, blown, {"wind": Wind(CROSS, 2, (1, 0))}, [("wind", BAD_WINDS, BadWind)])
        for call in (wind_of, lopsided):
            check_refusals(self, call, {"rose": CROSS}, [("rose", BAD_ROSES, BadRose)])
        check_refusals(self, is_lopsided, {"rose": CROSS, "thing": None}, [("rose", BAD_ROSES, BadRose)])


def oracle_one_more(size, one, other):
    return trip_sum(size, one, trip(size, [(plus(end(size, one), times(-1, end(size, other))), 1)]))


def two_trips(r, size):
    one = any_trip(r, size, 2, r.randint(0, 3))
    chance = r.random()
    if chance < 0.25:
        return one, trip_sum(size, one, any_trip(r, size, 2, 1))
    if chance < 0.5:
        # Equal ends.
        other = any_trip(r, size, 2, r.randint(0, 2))
        return one, trip_sum(size, other, trip(size, [(plus(end(size, one), times(-1, end(size, other))), 1)]))
    if chance < 0.6:
        return one, back(size, one)
    return one, any_trip(r, size, 2, r.randint(0, 3))


class RoundsTest(unittest.TestCase):
    def test_by_hand(self):
        east, west = (((1, 0), 1),), (((-1, 0), 1),)
        self.assertEqual(one_more(2, east, west), (((1, 0), 3),))
        self.assertEqual(one_more(2, east, east), east)
        self.assertEqual((compared_windy(2, east, west), compared(mirror_kind(2), east, west)), ("open", "alike"))
        self.assertEqual(compared_windy(2, (), east), "never longer")
        self.assertEqual(compared_windy(2, east, ()), "never shorter")
        self.assertEqual(compared_windy(2, (((-1, 0), 1), ((1, 0), 2)), (((-1, 0), 1), ((1, 0), 2))), "alike")
        both = (((-1, 0), 1), ((1, 0), 1))
        self.assertEqual(compared_windy(2, both, (((-1, 0), 1), ((0, -1), 1), ((0, 1), 1), ((1, 0), 1))), "never longer")
        self.assertEqual(windy_shares(2, (), ()), (1, ()))
        self.assertIs(is_windy_bar(2, east, (), Wind(CROSS, 1, (0, 0))), True)
        self.assertIs(is_windy_bar(2, east, (), Wind(CROSS, 1, (-1, 0))), False)

    def test_shares_or_bar(self):
        r, seen = seeded(921), {}
        for _ in range(300):
            size = r.randint(1, 3)
            one, other = two_trips(r, size)
            more = check_pure(self, one_more, size, one, other)
            self.assertEqual(more, oracle_one_more(size, one, other))
            told, wind = check_pure(self, windy_shares, size, one, other), check_pure(self, windy_bar, size, one, other)
            self.assertNotEqual(told is None, wind is None)
            self.assertEqual(wind is None, never_longer(mirror_kind(size), more, other))
            if wind is None:
                self.assertTrue(oracle_shares(mirror_kind(size), more, other, told))
                self.assertIs(is_windy_shares(size, one, other, told), True)
                blowing = any_wind(r, size)
                self.assertLessEqual(value(wind_total(blowing, one)), value(wind_total(blowing, other)))
            else:
                self.assertGreater(value(wind_total(wind, one)), value(wind_total(wind, other)))
                self.assertIs(is_windy_bar(size, one, other, wind), True)
                self.assertIs(is_windy_bar(size, other, one, wind), False)
                self.assertIs(is_windy_bar(size, one, other, blown(wind)), False)
            self.check_compared(size, one, other, wind, seen)
        self.assertEqual(len(seen), 4)
        self.assertGreater(min(seen.values()), 10)

    def check_compared(self, size, one, other, wind, seen):
        told = check_pure(self, compared_windy, size, one, other)
        seen[told] = seen.get(told, 0) + 1
        turned = {"alike": "alike", "open": "open", "never longer": "never shorter", "never shorter": "never longer"}
        self.assertEqual(compared_windy(size, other, one), turned[told])
        kind = mirror_kind(size)
        self.assertEqual(told in ("alike", "never longer"), wind is None)
        alike = end(size, one) == end(size, other) and folded(kind, one) == folded(kind, other)
        self.assertEqual(told == "alike", alike)
        if never_longer(plain_kind(size), one, other):
            self.assertIn(told, ("alike", "never longer"))
        if told in ("alike", "never longer"):
            self.assertIs(never_longer(kind, one, other), True)
        if end(size, one) == end(size, other):
            self.assertEqual(told, compared(kind, one, other))

    def test_judges(self):
        r, seen = seeded(922), [0, 0]
        while min(seen) < 15:
            size = r.randint(1, 3)
            one, other = two_trips(r, size)
            told, wind = windy_shares(size, one, other), windy_bar(size, one, other)
            seen[told is None] += 1
            if told is not None and one != () and seen[0] < 30:
                more = one_more(size, one, other)
                check_judge(self, lambda thing: is_windy_shares(size, one, other, thing), told,
                            lambda thing: oracle_shares(mirror_kind(size), more, other, thing))
            elif wind is not None:
                for near in [Wind(wind.rose, wind.scale, times(-1, wind.row)), Wind(wind.rose, 1, (0,) * size), any_wind(r, size)]:
                    self.assertEqual(is_windy_bar(size, one, other, near),
                                     value(wind_total(near, one)) > value(wind_total(near, other)))
                for near in [any_wind(r, 4 - size if size != 2 else 3), wind.rose, (wind.rose, wind.scale, wind.row), None, Wind]:
                    self.assertIs(is_windy_bar(size, one, other, near), False)
        east = (((1, 0), 1),)
        check_odd(self, lambda thing: is_windy_shares(2, east, (((1, 0), 2), ((1, 1), 1)), thing))
        check_odd(self, lambda thing: is_windy_bar(2, east, (), thing))

    def test_great_numbers(self):
        r = seeded(923)
        for _ in range(20):
            size = r.randint(1, 3)
            one, other = any_trip(r, size, NINE, 2), any_trip(r, size, NINE, 2)
            told, wind = windy_shares(size, one, other), windy_bar(size, one, other)
            self.assertNotEqual(told is None, wind is None)
        one, other = (((1, 0), LONG),), (((1, 0), LONG + 1),)
        self.assertEqual(compared_windy(2, one, other), "never longer")

    def test_other_coordinates(self):
        r = seeded(924)
        for _ in range(50):
            one, other = two_trips(r, 2)
            lead = [trip(2, [((inner(SHEAR[0], step), inner(SHEAR[1], step)), count) for step, count in gone]) for gone in (one, other)]
            self.assertEqual(compared_windy(2, *lead), compared_windy(2, one, other))
        self.assertEqual(len(Kind(2, [])), 1)

    def test_wrong(self):
        good = {"size": 2, "one": TRIP, "other": ()}
        wrong = [("size", BAD_SIZES, BadSize), ("one", BAD_TRIPS, BadTrip), ("other", BAD_TRIPS, BadTrip)]
        for call in (one_more, windy_shares, windy_bar, compared_windy):
            check_refusals(self, call, good, wrong)
        for call in (is_windy_shares, is_windy_bar):
            check_refusals(self, call, {**good, "thing": None}, wrong)


if __name__ == "__main__":
    unittest.main()
