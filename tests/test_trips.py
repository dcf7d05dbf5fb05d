"""[30] Trips."""

import math
import unittest
from fractions import Fraction

from pacerose.errors import BadCount, BadPairs, BadRose, BadSize, BadTable, BadTrip
from pacerose.roses import Rose
from pacerose.trips import back, end, is_trip, total, trip, trip_led, trip_sum, trip_times
from tests.helpers import (BAD_NUMBERS, BAD_ROSES, BAD_SIZES, LONG, NINE, ODD, QUARTER, any_most, any_rose, any_step,
                           check_odd, check_pure, check_refusals, fails, is_int, is_int_row, led_by, other_kinds,
                           other_numbers, row_of, seeded, takes, times, value)

BAD_PAIRS = [None, 5, "ab", {}, [(1, 0)], [[(1, 0), 1]], [((1, 0), -1)], [((1, 0), True)], [((1, 0), 1.0)], [((1,), 1)],
             [((1, 0, 0), 1)], [([1, 0], 1)], [((True, 0), 1)], [((1, 0), 1, 1)], [((1, 0),)], [((1, 0), 1), None], {(1, 0): 1},
             [((1, 0), None)]]
BAD_TRIPS = [None, 5, "ab", [], [((1, 0), 1)], (((1, 0), 0),), (((1, 0), -1),), (((2, 0), 1),), (((0, 0), 1),),
             (((1, 0), True),), (((True, 0), 1),), (([1, 0], 1),), ([(1, 0), 1],), (((1, 0), 1), ((0, 1), 1)),
             (((1, 0), 1), ((1, 0), 1)), (((1, 0), 1.0),), (((1,), 1),), (((1, 0, 0), 1),), (((1, 0),),), (1, 2),
             (((1, 0), 1), None), {}, ((1, 0), 1), (((1, 0), 1, 1),)]
BAD_TABLES = [None, 5, "ab", ((1,),), [(1, 0), (0, 1)], ((1, 0), [0, 1]), ((True, 0), (0, 1)), ((1.0, 0), (0, 1)), (),
              ((1, 0),), ((1, 0), (0, 1), (0, 0)), ((1, 0, 0), (0, 1, 0), (0, 0, 1))]
TRIP = (((0, 1), 3), ((1, 0), 2))


def any_trip(r, size, most=None, many=None):
    pairs = []
    for _ in range(r.randint(0, 4) if many is None else many):
        pairs.append((any_step(r, size, r.choice([1, 2, 5]) if most is None else most), r.choice([1, 1, 2, 3, 7])))
    return trip(size, pairs)


def oracle(size, thing):
    if type(thing) is not tuple or any(type(pair) is not tuple or len(pair) != 2 for pair in thing):
        return False
    if not all(is_int_row(step, size) and is_int(count) and count > 0 for step, count in thing):
        return False
    steps = [step for step, _ in thing]
    return steps == sorted(set(steps)) and all(math.gcd(*step) == 1 for step in steps)


class TripsTest(unittest.TestCase):
    def test_by_hand(self):
        self.assertEqual(trip(2, []), ())
        self.assertEqual(trip(2, [((4, -6), 3), ((2, -3), 1), ((0, 0), 9), ((1, 1), 0)]), (((2, -3), 7),))
        self.assertEqual(trip(1, [((5,), 1), ((-3,), 2)]), (((-1,), 6), ((1,), 5)))
        self.assertEqual(trip(2, (((1, 0), 2), ((0, 1), 3))), TRIP)
        self.assertEqual(trip(3, [((LONG, 0, 0), LONG)]), (((1, 0, 0), LONG * LONG),))
        self.assertEqual(end(2, TRIP), (2, 3))
        self.assertEqual(end(3, ()), (0, 0, 0))
        self.assertEqual(total(Rose(2, 2, [(1, 0), (0, 1)]), TRIP), (5, 2))
        self.assertEqual(total(Rose(2, 2, [(1, 0)]), ()), (0, 1))
        self.assertEqual(trip_sum(2, TRIP, (((1, 0), 1),)), (((0, 1), 3), ((1, 0), 3)))
        self.assertEqual(trip_times(2, TRIP, 0), ())
        self.assertEqual(trip_times(2, TRIP, 2), (((0, 1), 6), ((1, 0), 4)))
        self.assertEqual(back(2, TRIP), (((-1, 0), 2), ((0, -1), 3)))
        self.assertEqual(trip_sum(2, TRIP, back(2, TRIP)), (((-1, 0), 2), ((0, -1), 3), ((0, 1), 3), ((1, 0), 2)))
        self.assertEqual(trip_led(2, TRIP, QUARTER), (((-1, 0), 3), ((0, 1), 2)))
        self.assertEqual(trip_led(2, TRIP, ((2, 0), (0, 0))), (((1, 0), 4),))
        self.assertEqual(trip_led(2, TRIP, ((1, 1), (0, 0))), (((1, 0), 5),))
        self.assertEqual(trip_led(2, TRIP, ((0, 0), (0, 0))), ())

    def test_trip(self):
        r = seeded(121)
        for _ in range(300):
            size = r.randint(1, 3)
            most = any_most(r)
            pairs = [(any_step(r, size, most), r.choice([0, 1, 2, NINE])) for _ in range(r.randint(0, 6))]
            told = check_pure(self, trip, size, pairs)
            self.assertTrue(oracle(size, told))
            self.assertIs(is_trip(size, told), True)
            self.assertEqual(trip(size, told), told)
            self.assertEqual(trip(size, pairs[::-1]), told)
            rose = any_rose(r, size)
            self.assertEqual(value(total(rose, told)), sum(count * takes(rose, step) for step, count in pairs))
            made = tuple(sum(count * step[k] for step, count in pairs) for k in range(size))
            self.assertEqual(end(size, told), made)

    def test_sums(self):
        r = seeded(122)
        for _ in range(200):
            size = r.randint(1, 3)
            one, other, rose = any_trip(r, size), any_trip(r, size), any_rose(r, size)
            n = r.choice([0, 1, 5, NINE])
            table = tuple(row_of(r, size, 2) for _ in range(size))
            both = check_pure(self, trip_sum, size, one, other)
            many, turned = check_pure(self, trip_times, size, one, n), check_pure(self, back, size, one)
            led = check_pure(self, trip_led, size, one, table)
            for told in (both, many, turned, led):
                self.assertTrue(oracle(size, told))
            self.assertEqual(value(total(rose, both)), value(total(rose, one)) + value(total(rose, other)))
            self.assertEqual(value(total(rose, many)), n * value(total(rose, one)))
            self.assertEqual(value(total(rose, turned)), sum((c * takes(rose, times(-1, s)) for s, c in one), Fraction(0)))
            self.assertEqual(value(total(rose, led)), sum((c * takes(rose, led_by(table, s)) for s, c in one), Fraction(0)))

    def test_is_trip(self):
        r = seeded(123)
        for _ in range(60):
            size = r.randint(1, 3)
            right = any_trip(r, size)
            self.assertIs(is_trip(size, right), True)
            for near in [*other_kinds(right), *other_numbers(right)]:
                self.assertIs(is_trip(size, near), oracle(size, near), near)
        for size in (1, 2, 3):
            check_odd(self, lambda thing: is_trip(size, thing), [()])
        for wrong in BAD_TRIPS:
            self.assertIs(is_trip(2, wrong), False)
        check_refusals(self, is_trip, {"size": 2, "thing": None}, [("size", BAD_SIZES, BadSize)])

    def test_wrong(self):
        size, given = ("size", BAD_SIZES, BadSize), ("trip", BAD_TRIPS, BadTrip)
        check_refusals(self, trip, {"size": 2, "pairs": [((1, 0), 1)]}, [size, ("pairs", BAD_PAIRS, BadPairs)])
        check_refusals(self, total, {"rose": Rose(2, 1, []), "trip": TRIP}, [("rose", BAD_ROSES, BadRose), given])
        fails(self, BadTrip, total, Rose(3, 1, []), TRIP)
        check_refusals(self, end, {"size": 2, "trip": TRIP}, [size, given])
        check_refusals(self, back, {"size": 2, "trip": TRIP}, [size, given])
        check_refusals(self, trip_sum, {"size": 2, "one": TRIP, "other": TRIP},
                       [size, ("one", BAD_TRIPS, BadTrip), ("other", BAD_TRIPS, BadTrip)])
        check_refusals(self, trip_times, {"size": 2, "trip": TRIP, "number": 1},
                       [size, given, ("number", [-1] + BAD_NUMBERS, BadCount)])
        check_refusals(self, trip_led, {"size": 2, "trip": TRIP, "table": ((1, 0), (0, 1))},
                       [size, given, ("table", BAD_TABLES, BadTable)])

    def test_odd_are_no_trips(self):
        for thing in ODD:
            if type(thing) is not tuple or thing != ():
                fails(self, BadTrip, end, 2, thing)


if __name__ == "__main__":
    unittest.main()
