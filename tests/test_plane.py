"""[50] Polygons, [51] fields and borders."""

import unittest
from fractions import Fraction

from pacerose.errors import BadRose, BadTrip, NotClosed, NotFlat
from pacerose.plane import border, double_area, edges, field, field_area, polygon
from pacerose.roses import Rose
from pacerose.sums import rose_sum, rose_times
from pacerose.trips import back, end, total, trip, trip_sum, trip_times
from tests.helpers import (BAD_ROSES, NINE, any_rose, check_pure, check_refusals, fails, plus, seeded, times, value)
from tests.test_trips import BAD_TRIPS, TRIP, any_trip

FLAT = Rose(2, 1, [(1, 0), (0, 1)])


def cross(one, other):
    return one[0] * other[1] - one[1] * other[0]


def minus(one, other):
    return (one[0] - other[0], one[1] - other[1])


def is_round(points):
    """Told by the words of the document."""
    if points[0] != min(points) or len(set(points)) < len(points):
        return False
    steps = [minus(b, a) for a, b in zip(points, points[1:] + points[:1])]
    return len(points) < 3 or all(cross(a, b) > 0 for a, b in zip(steps, steps[1:] + steps[:1]))


def shoelace(points):
    return sum(cross(a, b) for a, b in zip(points, points[1:] + points[:1]))


def is_within(points, point):
    """Whether a polygon, flat or not, has the point."""
    if len(points) == 1:
        return point == points[0]
    if len(points) == 2:
        along, apart = minus(points[1], points[0]), minus(point, points[0])
        dot = along[0] * apart[0] + along[1] * apart[1]
        return cross(along, apart) == 0 and 0 <= dot <= along[0] ** 2 + along[1] ** 2
    return all(cross(minus(b, a), minus(point, a)) >= 0 for a, b in zip(points, points[1:] + points[:1]))


def any_closed(r, most=None, many=None):
    told = any_trip(r, 2, most, many)
    if r.random() < 0.2:
        return trip_sum(2, told, back(2, told))
    return trip_sum(2, told, trip(2, [(times(-1, end(2, told)), 1)]))


class PolygonTest(unittest.TestCase):
    def test_by_hand(self):
        nothing = Rose(2, 1, [])
        self.assertEqual((polygon(nothing), edges(nothing), double_area(nothing), border(nothing)), (((0, 0),), (), (0, 1), ()))
        self.assertEqual(polygon(FLAT), ((0, 0), (1, 0), (0, 1)))
        self.assertEqual(edges(FLAT), ((1, 0), (-1, 1), (0, -1)))
        self.assertEqual(double_area(FLAT), (1, 1))
        self.assertEqual(border(FLAT), (((-1, 0), 1), ((0, -1), 1), ((1, 1), 1)))
        line = Rose(2, 3, [(4, 2), (-2, -1)])
        self.assertEqual(polygon(line), ((-2, -1), (4, 2)))
        self.assertEqual(edges(line), ((6, 3), (-6, -3)))
        self.assertEqual(double_area(line), (0, 1))
        self.assertEqual(border(line), (((-1, 2), 3), ((1, -2), 3)))
        square = Rose(2, 2, [(1, 1), (1, -1), (-1, 1), (-1, -1)])
        self.assertEqual(polygon(square), ((-1, -1), (1, -1), (1, 1), (-1, 1)))
        self.assertEqual(double_area(square), (2, 1))
        self.assertEqual(polygon(Rose(2, 1, [(3, 1)])), ((0, 0), (3, 1)))

    def test_polygons(self):
        r = seeded(501)
        for _ in range(300):
            rose = any_rose(r, 2)
            points = check_pure(self, polygon, rose)
            self.assertIs(type(points), tuple)
            self.assertTrue(is_round(points))
            self.assertEqual({point for point in points if any(point)}, set(rose.rows))
            self.assertTrue(is_within(points, (0, 0)))
            steps = check_pure(self, edges, rose)
            self.assertEqual(steps, tuple(minus(b, a) for a, b in zip(points, points[1:] + points[:1])) if points[1:] else ())
            area = check_pure(self, double_area, rose)
            self.assertEqual(value(area), Fraction(shoelace(points), rose.scale ** 2))
            self.assertGreaterEqual(value(area), 0)
            self.assertEqual(check_pure(self, border, rose), trip(2, [((b, -a), 1) for a, b in steps]))

    def test_sums(self):
        r = seeded(502)
        for _ in range(200):
            one, other = any_rose(r, 2), any_rose(r, 2)
            both = rose_sum(one, other)
            told = [[(Fraction(a, rose.scale), Fraction(b, rose.scale)) for a, b in polygon(rose)[:1] + edges(rose)]
                    for rose in (one, other, both)]
            self.assertEqual(told[2][0], plus(told[0][0], told[1][0]))
            found = []
            for step in told[0][1:] + told[1][1:]:
                for k, known in enumerate(found):
                    if cross(known, step) == 0 and known[0] * step[0] + known[1] * step[1] > 0:
                        found[k] = plus(known, step)
                        break
                else:
                    found.append(step)
            self.assertEqual(sorted(found), sorted(told[2][1:]))


class FieldTest(unittest.TestCase):
    def test_by_hand(self):
        self.assertEqual(field(()), ((0, 0),))
        self.assertEqual(field_area(()), 0)
        self.assertEqual(field((((-1, -1), 1), ((1, 1), 1))), ((0, 0), (1, 1)))
        self.assertEqual(field((((0, -1), 3), ((0, 1), 3))), ((0, 0), (0, 3)))
        self.assertEqual(field((((-1, -1), 1), ((0, 1), 1), ((1, 0), 1))), ((0, 0), (1, 0), (1, 1)))
        square = (((-1, 0), 2), ((0, -1), 3), ((0, 1), 3), ((1, 0), 2))
        self.assertEqual(field(square), ((0, 0), (2, 0), (2, 3), (0, 3)))
        self.assertEqual(field_area(square), 12)
        self.assertEqual(field((((-2, 1), 1), ((1, -3), 1), ((1, 2), 1))), ((0, 0), (1, -3), (2, -1)))
        fails(self, (NotClosed, {"end": (2, 3)}), field, TRIP)
        fails(self, (NotClosed, {"end": (2, 3)}), field_area, TRIP)

    def test_fields(self):
        r = seeded(511)
        for _ in range(300):
            told = any_closed(r, r.choice([None, NINE]))
            points = check_pure(self, field, told)
            self.assertTrue(is_round(points) and points[0] == (0, 0))
            steps = [minus(b, a) for a, b in zip(points, points[1:] + points[:1])] if points[1:] else []
            self.assertEqual(sorted(steps), sorted(times(count, step) for step, count in told))
            self.assertEqual(check_pure(self, field_area, told), shoelace(points))

    def test_open_trips(self):
        r = seeded(512)
        for _ in range(100):
            told = any_trip(r, 2)
            if any(end(2, told)):
                fails(self, (NotClosed, {"end": end(2, told)}), field, told)
                fails(self, (NotClosed, {"end": end(2, told)}), field_area, told)

    def test_nobody_goes_faster_round_an_area(self):
        r = seeded(513)
        seen = {True: 0, False: 0}
        for _ in range(400):
            rose, told = any_rose(r, 2, 3), any_closed(r, 2)
            chance = r.random()
            if chance < 0.4:
                told = trip_times(2, border(rose), r.randint(1, 3))
                rose = rose_times(rose, (r.randint(1, 4), 1)) if chance < 0.2 else rose
            elif chance < 0.6:
                told = trip_sum(2, border(rose), told)
            left, right = value(total(rose, told)) ** 2, value(double_area(rose)) * field_area(told)
            self.assertGreaterEqual(left, right)
            if value(double_area(rose)) and field_area(told):
                edge = border(rose)
                alike = any(trip_times(2, told, edge[0][1]) == trip_times(2, edge, count) for _, count in told[:1])
                self.assertEqual(left == right, alike)
                seen[alike] += 1
        self.assertGreater(min(seen.values()), 50)

    def test_wrong(self):
        flat = [Rose(1, 1, [(1,)]), Rose(3, 1, []), Rose(3, 1, [(1, 0, 0)])]
        for call in (polygon, edges, double_area, border):
            check_refusals(self, call, {"rose": FLAT}, [("rose", BAD_ROSES, BadRose)])
            for rose in flat:
                fails(self, NotFlat, call, rose)
        for call in (field, field_area):
            check_refusals(self, call, {"trip": ()}, [("trip", BAD_TRIPS, BadTrip)])
            for told in ((((1,), 1), ((-1,), 1)), (((-1,), 1), ((1,), 1)), (((-1, 0, 0), 1), ((1, 0, 0), 1))):
                fails(self, BadTrip, call, told)


if __name__ == "__main__":
    unittest.main()
