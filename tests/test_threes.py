"""[54] Parts in the plane, [55] the roses of one or two rows that decide for all."""

import itertools
import math
import unittest

from pacerose.claims import never_longer
from pacerose.errors import BadRose, BadSteps, BadTrip, NotFlat, TooMany
from pacerose.kinds import plain_kind
from pacerose.roses import Rose
from pacerose.space import two_parts
from pacerose.sticks import stick_sum
from pacerose.sums import rose_sum, rose_times
from pacerose.threes import parts, three_bar, three_roses
from pacerose.trips import total, trip, trip_led, trip_sum
from tests.helpers import (BAD_ROSES, NINE, any_rose, check_pure, check_refusals, fails, inner, kinds_of, row_of, seeded,
                           times, value)
from tests.test_claims import problem
from tests.test_sticks import is_stick, lines
from tests.test_trips import BAD_TRIPS, TRIP


def has_no_parts(rose):
    """By the fact of [54]."""
    return len(rose.rows) < 2 or (len(rose.rows) == 2 and rose.rows[0][0] * rose.rows[1][1] != rose.rows[0][1] * rose.rows[1][0])


def is_across_one(row, told):
    return [line for line in told if inner(line, row) == 0]


def oracle_threes(steps, most):
    told = lines(2, steps)
    rows = [row for row in itertools.product(range(-most, most + 1), repeat=2) if any(row) and is_across_one(row, told)]
    found = [(row,) for row in rows if math.gcd(*row) == 1]
    for one, other in itertools.combinations(sorted(rows), 2):
        apart = (one[0] - other[0], one[1] - other[1])
        across = [is_across_one(row, told) for row in (one, other, apart)]
        if all(across) and len({line for group in across for line in group}) == 3 and math.gcd(*one, *other) == 1:
            found.append((one, other))
    return sorted(found)


class PartsTest(unittest.TestCase):
    def test_by_hand(self):
        self.assertEqual(parts(Rose(2, 1, [])), ())
        for rose in (Rose(2, 3, [(1, 2)]), Rose(2, 5, [(1, 0), (0, 1)]), Rose(2, 1, [(-3, 1), (4, 4)])):
            self.assertEqual(parts(rose), (rose,))
        self.assertEqual(set(part.rows for part in parts(Rose(2, 1, [(2, 0), (-3, 0)]))), {((2, 0),), ((-3, 0),)})
        self.assertEqual(set(part.rows for part in parts(Rose(2, 1, [(1, 0), (0, 1), (1, 1)]))), {((1, 0),), ((0, 1),)})

    def check_parts(self, rose):
        told = check_pure(self, parts, rose)
        self.assertIs(type(told), tuple)
        whole = Rose(2, 1, [])
        for part in told:
            self.assertTrue(type(part) is Rose and part.rows and has_no_parts(part))
            whole = rose_sum(whole, part)
        self.assertEqual(whole, rose)
        self.assertEqual(two_parts(rose) is None, has_no_parts(rose))

    def test_parts(self):
        r = seeded(541)
        for _ in range(400):
            self.check_parts(any_rose(r, 2, rows=r.randint(0, 9)))
        for _ in range(100):
            # Zeros on the rim of the hull, or a corner of it.
            rows = [(abs(a), b) for a, b in [row_of(r, 2, 4) for _ in range(r.randint(1, 6))]]
            self.check_parts(Rose(2, r.randint(1, 3), rows))
            self.check_parts(Rose(2, 1, [(a + 1, b) for a, b in rows]))
        for _ in range(60):
            one = rose_sum(any_rose(r, 2, 3, 2), any_rose(r, 2, 3, 2))
            self.check_parts(rose_sum(one, stick_sum(2, [(row_of(r, 2, 3), (1, 2)) for _ in range(3)])))
        circle = Rose(2, 1, [(a, b) for a in range(-25, 26) for b in range(-25, 26) if a * a + b * b <= 625])
        self.check_parts(circle)

    def test_wrong(self):
        check_refusals(self, parts, {"rose": Rose(2, 1, [])}, [("rose", BAD_ROSES, BadRose)])
        fails(self, NotFlat, parts, Rose(1, 1, []))
        fails(self, NotFlat, parts, Rose(3, 1, [(1, 0, 0)]))


class ThreesTest(unittest.TestCase):
    def test_by_hand(self):
        told = three_roses([(1, 1)])
        self.assertEqual(len(told), 12)
        self.assertEqual(told[0], Rose(2, 1, [(-1, 0)]))
        self.assertEqual(told[1].rows, ((-1, 0), (-1, 1)))
        one, other = (((1, 1), 1),), (((0, 1), 1), ((1, 0), 1))
        self.assertIsNone(three_bar(one, other))
        self.assertEqual(three_bar(other, one), Rose(2, 1, [(-1, 0), (-1, 1)]))
        self.assertEqual([rose.rows for rose in three_roses([])], [((-1, 0),), ((0, -1),), ((0, 1),), ((1, 0),)])
        self.assertEqual(three_roses([(0, 0), (3, 0), (0, -2)]), three_roses([]))

    def test_roses(self):
        r = seeded(551)
        for _ in range(60):
            steps = [row_of(r, 2, 2) for _ in range(r.randint(0, 4))]
            told = check_pure(self, three_roses, steps)
            rows = [rose.rows for rose in told]
            self.assertEqual(rows, sorted(set(rows)))
            self.assertTrue(all(type(rose) is Rose and rose.scale == 1 and has_no_parts(rose) for rose in told))
            many = len(lines(2, steps))
            self.assertEqual(len(told), 2 * many + 6 * math.comb(many, 3))
            most = max(abs(part) for rose in rows for row in rose for part in row)
            if most <= 8:
                self.assertEqual(rows, oracle_threes(steps, most))
        self.assertEqual(len(three_roses([(1, k) for k in range(1, 11)])), 24 + 6 * 220)

    def test_bars(self):
        r = seeded(552)
        seen = {True: 0, False: 0}
        while min(seen.values()) < 100:
            kind, one, other = problem(r, 2)
            if kind.size != 2:
                continue
            told = check_pure(self, three_bar, one, other)
            self.assertEqual(told is None, never_longer(plain_kind(2), one, other))
            seen[told is None] += 1
            for rose in three_roses(sorted({step for step, _ in one + other})):
                if told is not None and rose.rows == told.rows:
                    self.assertGreater(value(total(rose, one)), value(total(rose, other)))
                    break
                self.assertLessEqual(value(total(rose, one)), value(total(rose, other)))
            whole = [(), ()]
            for table in kind.tables:
                whole = [trip_sum(2, known, trip_led(2, gone, table)) for known, gone in zip(whole, (one, other))]
            if len({step for step, _ in whole[0] + whole[1]}) <= 10:
                self.assertEqual(three_bar(*whole) is None, never_longer(kind, one, other))

    def test_edges(self):
        self.assertIsNone(three_bar((), ()))
        self.assertIsNone(three_bar((), TRIP))
        self.assertEqual(three_bar(TRIP, ()), Rose(2, 1, [(0, 1)]))
        ten = trip(2, [((k, 1), 1) for k in range(10)])
        self.assertIsNone(three_bar(ten, ten))
        fails(self, (TooMany, {"most": 10}), three_bar, ten, (((-1, 0), 1),))
        fails(self, (TooMany, {"most": 10}), three_roses, [(1, 0)] * 11)
        self.assertEqual(len(three_roses([(1, 0)] * 10)), 4)

    def test_wrong(self):
        wrong = [None, 5, "ab", {}, [(1,)], [(1, 0, 0)], [[1, 0]], [(True, 0)], [(1, 0), None], [(1.0, 0)], [(1, 0)] * 11 + [0]]
        check_refusals(self, three_roses, {"steps": [(1, 0), (0, 0)]}, [("steps", wrong, BadSteps)])
        check_refusals(self, three_bar, {"one": TRIP, "other": ()}, [("one", BAD_TRIPS, BadTrip), ("other", BAD_TRIPS, BadTrip)])


if __name__ == "__main__":
    unittest.main()
