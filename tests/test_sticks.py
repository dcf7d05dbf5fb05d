"""[52] Sums of sticks, [53] the sticks that decide for all of them."""

import itertools
import math
import unittest
from fractions import Fraction

from pacerose.claims import never_longer
from pacerose.errors import BadPairs, BadRose, BadSize, BadSteps, BadTrip, NotMirrored, TooMany
from pacerose.kinds import mirror_kind
from pacerose.roses import Rose, is_kept
from pacerose.space import hlawka_bar
from pacerose.sticks import stick_bar, stick_rows, stick_sum, sticks
from pacerose.sums import rose_kept, rose_sum, rose_times
from pacerose.trips import total, trip, trip_sum
from tests.helpers import (BAD_RATIOS, BAD_ROSES, BAD_SIZES, NINE, any_rose, check_pure, check_refusals, fails, inner, plus,
                           row_of, seeded, takes, times, value)
from tests.test_trips import BAD_TRIPS, TRIP, any_trip


def stick_rose(row):
    return Rose(len(row), 1, [row, times(-1, row)])


def is_stick(row):
    return math.gcd(*row) == 1 and next(part for part in row if part) > 0


def any_pairs(r, size, many, most=3):
    return [(row_of(r, size, most), r.choice([(0, 1), (1, 1), (1, 2), (3, 1), (5, 3)])) for _ in range(many)]


def lines(size, steps):
    """The sticks along the lines of steps."""
    units = [tuple(1 if k == at else 0 for k in range(size)) for at in range(size)]
    found = set()
    for step in [*steps, *units]:
        if any(step):
            bare = tuple(part // math.gcd(*step) for part in step)
            found.add(bare if is_stick(bare) else times(-1, bare))
    return found


def is_across(row, chosen):
    return all(inner(row, line) == 0 for line in chosen)


def rank_two(one, other):
    return any(one[a] * other[b] != one[b] * other[a] for a in range(3) for b in range(3))


def oracle_rows(size, steps, most):
    """All sticks up to a size of their numbers across what they have to be across."""
    told = sorted(lines(size, steps))
    found = []
    for row in itertools.product(range(-most, most + 1), repeat=size):
        if any(row) and is_stick(row):
            groups = [[]] if size == 1 else [[a] for a in told] if size == 2 else itertools.combinations(told, 2)
            if any(is_across(row, group) for group in groups):
                found.append(row)
    return found


def pair_of_trips(r, size, steps=3):
    """Two trips of which one is often never longer than the other in sums of sticks."""
    other = any_trip(r, size, 2, r.randint(0, steps))
    if r.random() < 0.4:
        return any_trip(r, size, 2, r.randint(0, steps)), other
    one = ()
    for step, count in other:
        one = trip_sum(size, one, trip(size, [(times(r.choice([1, -1]), step), r.randint(0, count))]))
    if len(one) > 1 and r.random() < 0.8:
        (a, m), (b, n) = one[:2]
        one = trip_sum(size, trip(size, [(plus(a, b), min(m, n))]), one[2:])
    return one, other


def are_sides_mirrored(corners):
    """Whether of the corners of a mirrored hull those on each side are mirrored on their middle."""
    for a, b, c in itertools.combinations(corners, 3):
        u, v = [tuple(x - y for x, y in zip(p, a)) for p in (b, c)]
        normal = (u[1] * v[2] - u[2] * v[1], u[2] * v[0] - u[0] * v[2], u[0] * v[1] - u[1] * v[0])
        height = inner(normal, a)
        if any(normal) and (all(inner(normal, p) <= height for p in corners)
                            or all(inner(normal, p) >= height for p in corners)):
            side = [p for p in corners if inner(normal, p) == height]
            whole = [sum(p[k] for p in side) * 2 for k in range(3)]
            if sorted(tuple(w - len(side) * x for w, x in zip(whole, p)) for p in side) != sorted(
                    times(len(side), p) for p in side):
                return False
    return True


class SticksTest(unittest.TestCase):
    def test_by_hand(self):
        self.assertEqual(stick_sum(2, []), Rose(2, 1, []))
        self.assertEqual(stick_sum(2, [((0, 0), (3, 1)), ((1, 0), (0, 1))]), Rose(2, 1, []))
        self.assertEqual(stick_sum(2, [((2, 0), (1, 2)), ((0, 3), (1, 3))]), Rose(2, 1, [(1, 1), (1, -1), (-1, 1), (-1, -1)]))
        self.assertEqual(stick_sum(1, [((4,), (1, 3)), ((-1,), (1, 1))]), Rose(1, 3, [(7,), (-7,)]))
        self.assertEqual(sticks(Rose(1, 3, [(7,), (-7,)])), (((1,), (7, 3)),))
        self.assertEqual(sticks(Rose(2, 1, [(1, 1), (1, -1), (-1, 1), (-1, -1)])), (((0, 1), (1, 1)), ((1, 0), (1, 1))))
        self.assertEqual(sticks(Rose(2, 2, [(4, -2), (-4, 2)])), (((2, -1), (1, 1)),))
        self.assertEqual(sticks(Rose(3, 1, [])), ())
        self.assertEqual(sticks(Rose(3, 1, [(2, 2, 0), (-2, -2, 0)])), (((1, 1, 0), (2, 1)),))
        cube = Rose(3, 1, list(itertools.product((1, -1), repeat=3)))
        self.assertEqual(sticks(cube), (((0, 0, 1), (1, 1)), ((0, 1, 0), (1, 1)), ((1, 0, 0), (1, 1))))
        eight = Rose(3, 1, [(1, 0, 0), (-1, 0, 0), (0, 1, 0), (0, -1, 0), (0, 0, 1), (0, 0, -1)])
        self.assertIsNone(sticks(eight))
        self.assertEqual(sticks(Rose(3, 1, [(1, 0, 0), (-1, 0, 0), (0, 1, 0), (0, -1, 0)])),
                         (((1, -1, 0), (1, 2)), ((1, 1, 0), (1, 2))))
        self.assertIsNone(sticks(hlawka_bar((1, 0, 0), (0, 1, 0), (0, 0, 1))))

    def test_sums(self):
        r = seeded(521)
        for _ in range(250):
            size = r.randint(1, 3)
            pairs = any_pairs(r, size, r.randint(0, 6), r.choice([1, 3, 99, NINE]))
            rose = check_pure(self, stick_sum, size, pairs)
            for _ in range(6):
                step = row_of(r, size, 5)
                told = sum((Fraction(*ratio) * abs(inner(row, step)) for row, ratio in pairs), Fraction(0))
                self.assertEqual(takes(rose, step), told)
            told = check_pure(self, sticks, rose)
            self.assertEqual(stick_sum(size, told), rose)
            self.assertEqual([stick for stick, _ in told], sorted({stick for stick, _ in told}))
            self.assertTrue(all(is_stick(stick) and value(ratio) > 0 for stick, ratio in told))
            self.assertEqual(len(told), len({step for row, ratio in pairs if ratio[0] and any(row)
                                             for step in lines(size, [row]) & set([stick for stick, _ in told])}))
        self.assertEqual(len(sticks(stick_sum(3, [((k, k * k, 1), (1, k + 1)) for k in range(12)]))), 12)

    def test_mirrored_roses(self):
        r = seeded(522)
        for _ in range(200):
            size = r.choice([1, 2])
            rose = rose_kept(mirror_kind(size), any_rose(r, size, 5))
            told = check_pure(self, sticks, rose)
            self.assertEqual(stick_sum(size, told[:12]) if len(told) <= 12 else rose, rose)
            self.assertEqual(len(told), len(rose.rows) // 2)

    def test_in_space(self):
        r = seeded(523)
        seen = {True: 0, False: 0}
        for _ in range(250):
            chance = r.random()
            rows = [row for row, _ in any_pairs(r, 3, r.randint(1, 4), 2)]
            if chance < 0.3:
                rows = [(a, b, 0) for a, b, _ in rows]
            rose = rose_kept(mirror_kind(3), Rose(3, r.randint(1, 3), rows))
            if chance > 0.7:
                rose = rose_sum(rose, stick_sum(3, any_pairs(r, 3, 2)))
            told = sticks(rose)
            seen[told is None] += 1
            if told is not None:
                self.assertEqual(stick_sum(3, told), rose)
                self.assertTrue(are_sides_mirrored(rose.rows))
            else:
                self.assertFalse(are_sides_mirrored(rose.rows))
        self.assertGreater(min(seen.values()), 40)
        for _ in range(40):
            # A sum of sticks stays none with what is none put to it.
            eight = rose_kept(mirror_kind(3), Rose(3, 1, [(2, 1, 0), (0, 2, 1), (1, 0, 2)]))
            both = rose_sum(rose_times(eight, (r.choice([1, 3, 5]), 2)), stick_sum(3, any_pairs(r, 3, r.randint(0, 3))))
            self.assertIsNone(sticks(both))

    def test_wrong(self):
        wrong = [None, 5, "ab", {}, [(1, 0)], [[(1, 0), (1, 1)]], [((1, 0), (1, 1), 1)], [((1,), (1, 1))], [((1, 0, 0), (1, 1))],
                 [((True, 0), (1, 1))], [([1, 0], (1, 1))], [((1, 0), (-1, 2))], [((1, 0), 1)], [((1, 0),)], [None],
                 *[[((1, 0), bad)] for bad in BAD_RATIOS]]
        check_refusals(self, stick_sum, {"size": 2, "pairs": [((1, 0), (1, 1))] * 12},
                       [("size", BAD_SIZES, BadSize), ("pairs", wrong, BadPairs)])
        fails(self, (TooMany, {"most": 12}), stick_sum, 2, [((1, 0), (1, 1))] * 13)
        fails(self, BadPairs, stick_sum, 2, [((1, 0), (1, 1))] * 13 + [None])
        check_refusals(self, sticks, {"rose": Rose(2, 1, [])}, [("rose", BAD_ROSES, BadRose)])
        for rose in (Rose(1, 1, [(1,)]), Rose(2, 1, [(1, 0), (-1, 0), (0, 1)]), Rose(3, 1, [(1, 2, 3)])):
            self.assertFalse(is_kept(mirror_kind(rose.size), rose))
            fails(self, NotMirrored, sticks, rose)


class StickRowsTest(unittest.TestCase):
    def test_by_hand(self):
        self.assertEqual(stick_rows(1, []), [(1,)])
        self.assertEqual(stick_rows(1, [(5,), (-3,), (0,)]), [(1,)])
        self.assertEqual(stick_rows(2, []), [(0, 1), (1, 0)])
        self.assertEqual(stick_rows(2, [(2, 2), (-3, -3), (0, 0), (4, 0)]), [(0, 1), (1, -1), (1, 0)])
        self.assertEqual(stick_rows(3, []), [(0, 0, 1), (0, 1, 0), (1, 0, 0)])
        self.assertEqual(stick_rows(3, [(1, 1, 1)]), [(0, 0, 1), (0, 1, -1), (0, 1, 0), (1, -1, 0), (1, 0, -1), (1, 0, 0)])

    def test_rows(self):
        r = seeded(531)
        for _ in range(120):
            size = r.randint(1, 3)
            steps = [row_of(r, size, 1 if size == 3 else 3) for _ in range(r.randint(0, 5))]
            told = check_pure(self, stick_rows, size, steps)
            self.assertEqual(told, oracle_rows(size, steps, 3))
        self.assertEqual(len(stick_rows(2, [(k, 1) for k in range(1, 13)])), 14)

    def test_bars(self):
        r = seeded(532)
        seen = {True: 0, False: 0}
        for _ in range(400):
            size = r.randint(1, 3)
            one, other = pair_of_trips(r, size)
            told = check_pure(self, stick_bar, size, one, other)
            steps = sorted({step for step, _ in one + other})
            longer = [row for row in stick_rows(size, steps) if value(total(stick_rose(row), one)) > value(
                total(stick_rose(row), other))]
            self.assertEqual(told, longer[0] if longer else None)
            seen[told is None] += 1
            flat = size < 3 or not any(rank_three(*chosen) for chosen in itertools.combinations(steps, 3))
            if flat:
                self.assertIs(never_longer(mirror_kind(size), one, other), told is None)
            elif told is not None:
                self.assertIs(never_longer(mirror_kind(size), one, other), False)
            if told is None:
                rose = stick_sum(size, any_pairs(r, size, 4))
                self.assertLessEqual(value(total(rose, one)), value(total(rose, other)))
        self.assertGreater(min(seen.values()), 80)

    def test_edges(self):
        self.assertIsNone(stick_bar(2, (), ()))
        self.assertIsNone(stick_bar(2, (), TRIP))
        self.assertEqual(stick_bar(2, TRIP, ()), (0, 1))
        self.assertIsNone(stick_bar(2, (((-1, -2), 1),), (((1, 2), 1),)))
        there = trip(2, [((k, 1), 1) for k in range(12)])
        self.assertIsNone(stick_bar(2, (), there))
        self.assertIsNone(stick_bar(2, there, there))
        fails(self, (TooMany, {"most": 12}), stick_bar, 2, there, (((-1, 0), 1),))
        fails(self, (TooMany, {"most": 12}), stick_rows, 2, [(1, 0)] * 13)

    def test_wrong(self):
        wrong = [None, 5, "ab", {}, [(1,)], [(1, 0, 0)], [[1, 0]], [(True, 0)], [(1, 0), None], [(1.0, 0)]]
        check_refusals(self, stick_rows, {"size": 2, "steps": [(1, 0), (0, 0)]},
                       [("size", BAD_SIZES, BadSize), ("steps", wrong, BadSteps)])
        fails(self, BadSteps, stick_rows, 2, [(1, 0)] * 13 + [(1,)])
        check_refusals(self, stick_bar, {"size": 2, "one": TRIP, "other": ()},
                       [("size", BAD_SIZES, BadSize), ("one", BAD_TRIPS, BadTrip), ("other", BAD_TRIPS, BadTrip)])


def rank_three(a, b, c):
    return (a[0] * (b[1] * c[2] - b[2] * c[1]) - a[1] * (b[0] * c[2] - b[2] * c[0]) + a[2] * (b[0] * c[1] - b[1] * c[0])) != 0


if __name__ == "__main__":
    unittest.main()
