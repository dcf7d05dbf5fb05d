"""[13] Mixtures, outer rows and corners."""

import unittest

from pacerose.errors import BadRow, BadRows, TooMany
from pacerose.hulls import corners, is_mixture, is_outer, mixture, outer
from pacerose.shells import extreme
from tests.helpers import (LONG, any_most, check_judge, check_odd, check_pure, check_refusals, fails, inner, is_int,
                           is_int_row, row_of, rows_of, seeded, without_divisor)

BAD_ROWS = [None, 5, "ab", {}, [(1, 2), (1,)], [[1, 2]], [(True, 0)], [(1.0, 0)], [()], [(1,) * 61], [1],
            [(1, 2), (1, 2, 3)], [(1, 2), None]]
BAD_ROW = [None, 5, "ab", [1, 2], (1,), (1, 2, 3), (True, 0), (1.0, 2), ()]
MANY = [(k, -k) for k in range(101)]


def oracle_mixture(rows, row, thing):
    if type(thing) is not tuple or len(thing) != 2 or not is_int(thing[0]) or thing[0] < 1:
        return False
    scale, counts = thing
    if not is_int_row(counts, len(rows)) or any(count < 0 for count in counts) or sum(counts) > scale:
        return False
    made = tuple(sum(c * part[k] for c, part in zip(counts, rows)) for k in range(len(row)))
    return without_divisor([scale, *counts]) and made == tuple(scale * part for part in row)


def oracle_outer(rows, row, thing):
    if not is_int_row(thing, len(row)):
        return False
    return inner(thing, row) > 0 and all(inner(thing, row) > inner(thing, part) for part in rows)


def problem(r):
    many, most = r.randint(1, 5), any_most(r)
    rows = rows_of(r, many, r.randint(0, 7), most)
    if len(rows) > 1 and r.random() < 0.3:
        rows.append(r.choice(rows))
    if r.random() < 0.1:
        rows.append((0,) * many)
    row = row_of(r, many, max(1, most // 3))
    if rows and r.random() < 0.2:
        row = r.choice(rows)
    elif len(rows) > 1 and r.random() < 0.4:
        one, other = r.choice(rows), r.choice(rows)
        row = tuple((a + b) // 2 for a, b in zip(one, other))
    return rows, row


class HullsTest(unittest.TestCase):
    def test_one_of_both(self):
        r = seeded(31)
        told = {True: 0, False: 0}
        for _ in range(1500):
            rows, row = problem(r)
            mixed, out = mixture(rows, row), outer(rows, row)
            self.assertNotEqual(mixed is None, out is None)
            told[mixed is None] += 1
            if out is None:
                self.assertTrue(oracle_mixture(rows, row, mixed))
                self.assertIs(is_mixture(rows, row, mixed), True)
            else:
                self.assertTrue(oracle_outer(rows, row, out) and without_divisor(out))
                self.assertIs(is_outer(rows, row, out), True)
                self.assertIs(is_outer(rows, row, tuple(6 * part for part in out)), True)
        self.assertGreater(min(told.values()), 300)

    def test_by_hand(self):
        self.assertEqual(mixture([(2, 0), (0, 2)], (1, 1)), (2, (1, 1)))
        self.assertEqual(mixture([(3,)], (1,)), (3, (1,)))
        self.assertEqual(mixture([], (0, 0)), (1, ()))
        self.assertEqual(mixture([(1, 0)], (0, 0)), (1, (0,)))
        self.assertIsNone(mixture([(1, 0)], (2, 0)))
        self.assertIsNone(mixture([(1, 0)], (-1, 0)))
        self.assertEqual(outer([], (4,)), (1,))
        self.assertTrue(oracle_outer([], (0, 4), outer([], (0, 4))))
        self.assertEqual(mixture([(LONG, 0)], (1, 0)), (LONG, (1,)))

    def test_judges(self):
        r = seeded(32)
        for _ in range(150):
            rows, row = problem(r)
            mixed, out = mixture(rows, row), outer(rows, row)
            if out is None:
                check_judge(self, lambda thing: is_mixture(rows, row, thing), mixed,
                            lambda thing: oracle_mixture(rows, row, thing))
                self.assertIs(is_mixture(rows, row, (2 * mixed[0], tuple(2 * part for part in mixed[1]))), False)
            else:
                check_judge(self, lambda thing: is_outer(rows, row, thing), out,
                            lambda thing: oracle_outer(rows, row, thing))
        check_odd(self, lambda thing: is_mixture([(1, 1), (2, 3)], (1, 1), thing))
        check_odd(self, lambda thing: is_outer([(1, 1), (2, 3)], (-2, 0), thing))

    def test_pure(self):
        r = seeded(33)
        for _ in range(40):
            rows, row = problem(r)
            check_pure(self, mixture, rows, row)
            check_pure(self, outer, rows, row)
            check_pure(self, corners, rows)

    def test_wrong(self):
        good = {"rows": [(1, 2), (3, 4)], "row": (5, 6)}
        wrong = [("rows", BAD_ROWS, BadRows), ("row", BAD_ROW, BadRow)]
        for call in (mixture, outer):
            check_refusals(self, call, good, wrong)
        for call in (is_mixture, is_outer):
            check_refusals(self, call, {**good, "thing": None}, wrong)
        check_refusals(self, corners, {"rows": [(1, 2)]}, wrong[:1])
        for call, more in [(mixture, ()), (outer, ()), (is_mixture, (None,)), (is_outer, (None,))]:
            call(MANY[:100], (1, 2), *more)
            fails(self, (TooMany, {"most": 100}), call, MANY, (1, 2), *more)
            fails(self, BadRow, call, MANY, (1,), *more)
            fails(self, BadRows, call, MANY + [(1,)], (1,), *more)
        self.assertEqual(corners(MANY[:100]), ((99, -99),))
        fails(self, (TooMany, {"most": 100}), corners, MANY)
        fails(self, BadRows, corners, MANY + [(1,)])


class CornersTest(unittest.TestCase):
    def test_by_hand(self):
        self.assertEqual(corners([]), ())
        self.assertEqual(corners([(0, 0)]), ())
        self.assertEqual(corners([(2, 0), (1, 0), (2, 0), (0, 0)]), ((2, 0),))
        self.assertEqual(corners([(2, 0), (0, 2), (1, 1), (1, 0)]), ((0, 2), (2, 0)))
        self.assertEqual(corners([(3,), (-1,), (2,), (0,)]), ((-1,), (3,)))
        cube = [(a, b, c) for a in (0, 1, 2) for b in (0, 1, 2) for c in (0, 1, 2)]
        self.assertEqual(len(corners(cube)), 7)
        self.assertEqual(corners([(1, 0, 0, 0), (0, 1, 0, 0), (1, 1, 0, 0), (0, 0, 0, 0), (1, 1, 0, 0)]),
                         ((0, 1, 0, 0), (1, 0, 0, 0), (1, 1, 0, 0)))

    def test_middles_in_longer_rows(self):
        self.assertEqual(corners([(2, 0, 0, 0), (1, 0, 0, 0), (1, 1, 0, 0), (0, 2, 0, 0)]), ((0, 2, 0, 0), (2, 0, 0, 0)))
        r = seeded(38)
        for many in (4, 5, 7):
            for _ in range(20):
                ends = rows_of(r, many, 4, 9)
                middles = [tuple((a + b) for a, b in zip(r.choice(ends), r.choice(ends))) for _ in range(6)]
                rows = [tuple(2 * a for a in end) for end in ends] + middles
                self.check_corners(rows, corners(rows))
                self.assertLessEqual(len(corners(rows)), 4)

    def check_corners(self, rows, told):
        """Just those that are no mixture of the others, one by one."""
        different = sorted(set(rows))
        kept = [row for row in different if any(row) and mixture([o for o in different if o != row], row) is None]
        self.assertEqual(told, tuple(kept))

    def test_many(self):
        r = seeded(34)
        for _ in range(500):
            rows, _ = problem(r)
            self.check_corners(rows, corners(rows))

    def test_flat_and_round_ones_in_space(self):
        r = seeded(35)
        for _ in range(120):
            base = rows_of(r, 3, r.choice([1, 2, 2, 3]), 3)
            rows = []
            for _ in range(r.randint(3, 40)):
                parts = [r.randint(-3, 3) for _ in base]
                rows.append(tuple(sum(p * b[k] for p, b in zip(parts, base)) for k in range(3)))
            self.check_corners(rows, corners(rows))

    def test_moved_hulls(self):
        """Hulls without zeros, too, with many points on one side and on one edge."""
        r = seeded(36)
        for _ in range(60):
            size, most = r.randint(1, 3), r.choice([1, 2, 3])
            move = row_of(r, size, 9)
            points = [tuple(a + b for a, b in zip(move, row_of(r, size, most))) for _ in range(r.randint(1, 30))]
            kept = []
            for point in sorted(set(points)):
                others = [tuple(a - b for a, b in zip(o, point)) for o in set(points) if o != point]
                if not others or outer([tuple(a - b for a, b in zip(o, others[0])) for o in others],
                                       tuple(-a for a in others[0])) is not None:
                    kept.append(point)
            self.assertEqual(extreme(points), kept)

    def test_equal_corners_mean_equal_mixtures(self):
        r = seeded(37)
        for _ in range(200):
            size = r.randint(1, 4)
            one, other = rows_of(r, size, r.randint(0, 5), 1), rows_of(r, size, r.randint(0, 5), 1)
            alike = (all(mixture(one, row) is not None for row in other)
                     and all(mixture(other, row) is not None for row in one))
            self.assertEqual(corners(one) == corners(other), alike)


if __name__ == "__main__":
    unittest.main()
