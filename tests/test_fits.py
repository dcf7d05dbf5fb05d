"""[56] Fields that can be moved into others."""

import itertools
import unittest
from fractions import Fraction

from pacerose.claims import never_longer
from pacerose.errors import BadTrip
from pacerose.fits import closings, fit, is_fit
from pacerose.kinds import plain_kind
from pacerose.plane import field
from pacerose.threes import three_bar
from pacerose.trips import end, trip, trip_sum
from tests.helpers import (NINE, check_judge, check_odd, check_pure, check_refusals, is_int_row, plus, seeded,
                           value, without_divisor)
from tests.test_plane import cross, is_within, minus
from tests.test_trips import BAD_TRIPS, TRIP, any_trip

ONE, OTHER = (((1, 1), 1),), (((0, 1), 1), ((1, 0), 1))


def oracle_fit(one, other, thing):
    if type(thing) is not tuple or len(thing) != 2:
        return False
    if not all(is_int_row(part, 2) and part[1] > 0 and without_divisor(part) for part in thing):
        return False
    moved = (Fraction(*thing[0]), Fraction(*thing[1]))
    inner, outer = closings(one, other)
    return all(is_within(field(outer), plus(corner, moved)) for corner in field(inner))


def plain_fit(one, other):
    """The least place of all where two borders of moved outer fields cross, or their corners."""
    inner, outer = [field(told) for told in closings(one, other)]
    borders = []
    for corner in inner:
        points = [minus(point, corner) for point in outer]
        borders.extend(list(zip(points, points[1:] + points[:1])))
    spots = {point for ends in borders for point in ends}
    for (a, b), (c, d) in itertools.combinations(borders, 2):
        u, v = minus(b, a), minus(d, c)
        if cross(u, v) != 0:
            share = Fraction(cross(minus(c, a), v), cross(u, v))
            spots.add((a[0] + share * u[0], a[1] + share * u[1]))
    for spot in sorted(spots):
        if all(is_within(outer, plus(corner, spot)) for corner in inner):
            return tuple((Fraction(part).numerator, Fraction(part).denominator) for part in spot)
    return None


def problem(r, most=2):
    other = any_trip(r, 2, most, r.randint(0, 4))
    if r.random() < 0.4:
        return any_trip(r, 2, most, r.randint(0, 4)), other
    one = trip(2, [(step, r.randint(0, count)) for step, count in other])
    if len(one) > 1 and r.random() < 0.8:
        (a, m), (b, n) = one[:2]
        one = trip_sum(2, trip(2, [(plus(a, b), min(m, n))]), one[2:])
    return one, other


class FitsTest(unittest.TestCase):
    def test_by_hand(self):
        inner, outer = closings(ONE, OTHER)
        self.assertEqual(inner, (((-1, -1), 1), ((1, 1), 1)))
        self.assertEqual(field(inner), ((0, 0), (1, 1)))
        self.assertEqual(field(outer), ((0, 0), (1, 0), (1, 1)))
        self.assertEqual(fit(ONE, OTHER), ((0, 1), (0, 1)))
        self.assertIsNone(fit(OTHER, ONE))
        self.assertEqual(closings((), ()), ((), ()))
        self.assertEqual(fit((), ()), ((0, 1), (0, 1)))
        self.assertIs(is_fit((), (), ((0, 1), (0, 1))), True)
        self.assertIs(is_fit((), (), ((0, 1), (1, 1))), False)
        self.assertEqual(fit((), ONE), ((0, 1), (0, 1)))
        self.assertIsNone(fit(ONE, ()))
        # There and back: a line along which a shorter one can be moved.
        line = (((-1, -1), 3), ((1, 1), 5))
        self.assertEqual(fit((((-1, -1), 1), ((1, 1), 1)), line), ((0, 1), (0, 1)))
        self.assertIs(is_fit((((-1, -1), 1), ((1, 1), 1)), line, ((2, 1), (2, 1))), True)
        self.assertIs(is_fit((((-1, -1), 1), ((1, 1), 1)), line, ((5, 2), (5, 2))), False)
        self.assertIs(is_fit((((-1, -1), 1), ((1, 1), 1)), line, ((2, 1), (3, 2))), False)
        self.assertIsNone(fit((((0, 1), 1),), line))
        # A triangle that has room.
        self.assertEqual(fit((((-1, -1), 1), ((0, 1), 1), ((1, 0), 1)), (((-1, -2), 2), ((0, 1), 4), ((1, 0), 2))),
                         ((0, 1), (0, 1)))

    def test_closings(self):
        r = seeded(561)
        for _ in range(200):
            one, other = any_trip(r, 2), any_trip(r, 2)
            told = check_pure(self, closings, one, other)
            home, ahead = minus((0, 0), end(2, other)), minus(end(2, other), end(2, one))
            self.assertEqual(told, (trip_sum(2, one, trip(2, [(ahead, 1), (home, 1)])), trip_sum(2, other, trip(2, [(home, 1)]))))
            self.assertEqual([end(2, gone) for gone in told], [(0, 0)] * 2)

    def test_fits(self):
        r = seeded(562)
        seen = {True: 0, False: 0}
        moved = 0
        for _ in range(500):
            one, other = problem(r, r.choice([1, 2, 4]))
            told = check_pure(self, fit, one, other)
            self.assertEqual(told is not None, never_longer(plain_kind(2), one, other))
            if len({step for step, _ in one + other}) <= 10:
                self.assertEqual(told is not None, three_bar(one, other) is None)
            self.assertEqual(told, plain_fit(one, other))
            seen[told is None] += 1
            if told is not None:
                self.assertTrue(oracle_fit(one, other, told))
                self.assertIs(is_fit(one, other, told), True)
                moved += value(told[0]) != 0 or value(told[1]) != 0
            near = ((r.randint(-2, 4), r.choice([1, 3])), (r.randint(-2, 4), r.choice([1, 3])))
            self.assertIs(is_fit(one, other, near), oracle_fit(one, other, near))
        self.assertGreater(min(*seen.values(), moved * 3), 80)

    def test_great_numbers(self):
        r = seeded(563)
        for _ in range(40):
            one, other = problem(r, NINE)
            told = fit(one, other)
            self.assertEqual(told is not None, never_longer(plain_kind(2), one, other))
            self.assertTrue(told is None or oracle_fit(one, other, told))

    def test_judge(self):
        r = seeded(564)
        for _ in range(40):
            one, other = problem(r)
            told = fit(one, other)
            if told is not None:
                check_judge(self, lambda thing: is_fit(one, other, thing), told, lambda thing: oracle_fit(one, other, thing))
        check_odd(self, lambda thing: is_fit(ONE, OTHER, thing))
        self.assertIs(is_fit(ONE, OTHER, [(0, 1), (0, 1)]), False)
        self.assertIs(is_fit(ONE, OTHER, ((0, 2), (0, 1))), False)

    def test_wrong(self):
        wrong = [("one", BAD_TRIPS, BadTrip), ("other", BAD_TRIPS, BadTrip)]
        check_refusals(self, closings, {"one": TRIP, "other": ONE}, wrong)
        check_refusals(self, fit, {"one": TRIP, "other": ONE}, wrong)
        check_refusals(self, is_fit, {"one": TRIP, "other": ONE, "thing": 0}, wrong)


if __name__ == "__main__":
    unittest.main()
