"""[57] What holds for sticks, but not in space, and [58] roses in two parts."""

import itertools
import unittest
from fractions import Fraction

from pacerose.claims import bar, never_longer
from pacerose.deals import dealt
from pacerose.errors import BadRose, BadSize, BadStep
from pacerose.kinds import mirror_kind
from pacerose.roses import Rose, hull_corners, is_kept
from pacerose.rows import determinant
from pacerose.space import hlawka, hlawka_bar, is_two_parts, two_parts
from pacerose.sticks import stick_bar, stick_sum
from pacerose.sums import rose_sum, rose_times
from pacerose.trips import total, trip
from tests.helpers import (BAD_ROSES, BAD_SIZES, NINE, ODD, any_rose, any_step, check_odd, check_pure, check_refusals, fails,
                           inner, plus, row_of, seeded, value, without_divisor)
from tests.test_threes import has_no_parts

CUBE = Rose(3, 1, list(itertools.product((1, -1), repeat=3)))
EIGHT = Rose(3, 1, [(1, 0, 0), (-1, 0, 0), (0, 1, 0), (0, -1, 0), (0, 0, 1), (0, 0, -1)])
WRONG_STEPS = [None, 5, [1, 0, 0], (1, 0), (1, 0, 0, 0), (True, 0, 0), (1.0, 0, 0), "abc", ()]


def is_multiple(part, rose):
    if not part.rows:
        return True
    if len(part.rows) != len(rose.rows):
        return False
    factors = {Fraction(a * rose.scale, b * part.scale) if b else None if a else "any"
               for here, there in zip(part.rows, rose.rows) for a, b in zip(here, there)} - {"any"}
    return len(factors) == 1 and None not in factors and factors.pop() >= 0


def oracle_two_parts(rose, thing):
    if type(thing) is not tuple or len(thing) != 2 or not all(type(part) is Rose and part.size == rose.size for part in thing):
        return False
    return rose_sum(*thing) == rose and not any(is_multiple(part, rose) for part in thing)


def edges_of(corners):
    """Pairs of corners at which, and at no other one, the dot with some step is greatest."""
    found = []
    for one, other in itertools.combinations(corners, 2):
        along = tuple(b - a for a, b in zip(one, other))
        columns = [(*[b - a for a, b in zip(one, corner)], 1) for corner in corners if corner not in (one, other)]
        columns += [(*along, 0), (*[-part for part in along], 0)]
        if dealt(columns, (*[0] * len(one), 1)) is None:
            found.append((one, other))
    return found


def count_of_factors(corners):
    """Of how many numbers the factors of edges can be chosen freely, if zeros is a corner and stays where it is."""
    size, nothing = len(corners[0]), (0,) * len(corners[0])
    edges, free = edges_of(corners), [corner for corner in corners if corner != nothing]
    many = len(edges) + size * len(free)
    lines = []
    for at, (start, stop) in enumerate(edges):
        for k in range(size):
            line = [Fraction(0)] * many
            line[at] = Fraction(start[k] - stop[k])
            for corner, sign in ((stop, 1), (start, -1)):
                if corner != nothing:
                    line[len(edges) + size * free.index(corner) + k] += sign
            lines.append(line)
    done = 0
    for c in range(many):
        found = [k for k in range(done, len(lines)) if lines[k][c] != 0]
        if found:
            lines[done], lines[found[0]] = lines[found[0]], lines[done]
            for k in range(done + 1, len(lines)):
                if lines[k][c] != 0:
                    share = lines[k][c] / lines[done][c]
                    lines[k] = [a - share * b for a, b in zip(lines[k], lines[done])]
            done += 1
    return many - done


class HlawkaTest(unittest.TestCase):
    def test_by_hand(self):
        units = [(1, 0, 0), (0, 1, 0), (0, 0, 1)]
        one, other = hlawka(3, *units)
        self.assertEqual(one, (((0, 1, 1), 1), ((1, 0, 1), 1), ((1, 1, 0), 1)))
        self.assertEqual(other, (((0, 0, 1), 1), ((0, 1, 0), 1), ((1, 0, 0), 1), ((1, 1, 1), 1)))
        rose = hlawka_bar(*units)
        self.assertEqual(rose, Rose(3, 1, [(-1, 1, 1), (1, -1, 1), (1, 1, -1), (1, -1, -1), (-1, 1, -1), (-1, -1, 1)]))
        self.assertEqual((total(rose, one), total(rose, other)), ((6, 1), (4, 1)))
        self.assertEqual(hlawka(1, (2,), (-2,), (3,)), ((((1,), 6),), (((-1,), 2), ((1,), 8))))
        self.assertEqual(hlawka(2, (0, 0), (0, 0), (0, 0)), ((), ()))
        self.assertIsNone(hlawka_bar((1, 0, 0), (0, 1, 0), (1, 1, 0)))
        self.assertIsNone(hlawka_bar((0, 0, 0), (0, 1, 0), (0, 0, 1)))

    def test_pairs(self):
        r = seeded(571)
        for _ in range(150):
            size = r.randint(1, 3)
            x, y, z = [any_step(r, size, 3) for _ in range(3)]
            one, other = check_pure(self, hlawka, size, x, y, z)
            whole = plus(plus(x, y), z)
            self.assertEqual(one, trip(size, [(plus(x, y), 1), (plus(y, z), 1), (plus(z, x), 1)]))
            self.assertEqual(other, trip(size, [(x, 1), (y, 1), (z, 1), (whole, 1)]))
            self.assertIsNone(stick_bar(size, one, other))
            flat = size < 3 or determinant((x, y, z)) == 0
            self.assertEqual(never_longer(mirror_kind(size), one, other), flat)

    def test_bars(self):
        r = seeded(572)
        seen = 0
        for _ in range(150):
            x, y, z = [any_step(r, 3, r.choice([1, 2, 9, NINE])) for _ in range(3)]
            rose = check_pure(self, hlawka_bar, x, y, z)
            self.assertEqual(rose is None, determinant((x, y, z)) == 0)
            if rose is None:
                continue
            seen += 1
            one, other = hlawka(3, x, y, z)
            self.assertEqual(2 * value(total(rose, one)), 3 * value(total(rose, other)))
            self.assertTrue(is_kept(mirror_kind(3), rose))
            self.assertEqual((rose.scale, len(rose.rows)), (1, 6))
            self.assertTrue(without_divisor([part for row in rose.rows for part in row]))
            k = abs(inner(rose.rows[0], x))
            signs = sorted(tuple(inner(row, step) for step in (x, y, z)) for row in rose.rows)
            self.assertEqual(signs, sorted(tuple(s * t * k for s in row) for t in (1, -1)
                                           for row in ((-1, 1, 1), (1, -1, 1), (1, 1, -1))))
            self.assertIsNotNone(bar(mirror_kind(3), one, other))
        self.assertGreater(seen, 100)

    def test_wrong(self):
        steps = [(name, WRONG_STEPS, BadStep) for name in "xyz"]
        good = {name: step for name, step in zip("xyz", [(1, 0, 0), (0, 1, 0), (0, 0, 1)])}
        check_refusals(self, hlawka, {"size": 3, **good}, [("size", BAD_SIZES, BadSize), *steps])
        check_refusals(self, hlawka_bar, good, steps)


class TwoPartsTest(unittest.TestCase):
    def test_by_hand(self):
        for rose in (Rose(1, 1, []), Rose(2, 1, []), Rose(3, 4, []), Rose(1, 2, [(3,)]), Rose(2, 1, [(1, 2)]),
                     Rose(2, 1, [(1, 0), (0, 1)]), Rose(3, 5, [(1, 1, 1)]), Rose(3, 1, [(1, 0, 0), (0, 1, 0)]),
                     Rose(3, 1, [(1, 0, 0), (0, 1, 0), (0, 0, 1)]),
                     Rose(3, 1, [(1, 0, 1), (-1, 0, 1), (0, 1, 1), (0, -1, 1)]),
                     Rose(3, 1, [(1, 0, 1), (-1, 0, 1), (0, 1, 1), (0, -1, 1), (0, 0, 2)])):
            self.assertIsNone(two_parts(rose), rose.rows)
            self.assertIs(is_two_parts(rose, (rose, Rose(rose.size, 1, []))), False)
        for rose in (Rose(1, 2, [(3,), (-5,)]), Rose(2, 1, [(1, 0), (0, 1), (1, 1)]), CUBE, EIGHT,
                     Rose(3, 1, [(1, 0, 0), (0, 1, 0), (1, 1, 0)]), Rose(3, 1, [(1, 0, 0), (-1, 0, 0)]),
                     Rose(2, 1, [(2, 1), (-1, 1), (-1, -2)])):
            self.assertTrue(oracle_two_parts(rose, two_parts(rose)), rose.rows)

    def check_parts(self, rose):
        told = check_pure(self, two_parts, rose)
        if told is not None:
            self.assertTrue(oracle_two_parts(rose, told), rose.rows)
            self.assertIs(is_two_parts(rose, told), True)
            self.assertIs(is_two_parts(rose, told[::-1]), True)
        return told is None

    def test_parts(self):
        r = seeded(581)
        seen = {True: 0, False: 0}
        for _ in range(300):
            size = r.choice([1, 2, 3, 3])
            rows = [row_of(r, size, r.choice([1, 2])) for _ in range(r.randint(0, 6))]
            if r.random() < 0.6:
                rows = [(abs(row[0]) + 1, *row[1:]) for row in rows]
            rose = Rose(size, r.randint(1, 3), rows)
            if r.random() < 0.3:
                rose = rose_sum(rose, Rose(size, 1, [(1, *row_of(r, size - 1, 2)) for _ in range(r.randint(0, 2))]))
            none = self.check_parts(rose)
            seen[none] += 1
            corners = hull_corners(rose)
            if (0,) * size not in corners:
                self.assertFalse(none)
            elif len(corners) < 10:
                self.assertEqual(none, len(corners) == 1 or count_of_factors(corners) == 1, rose.rows)
            if size == 2:
                self.assertEqual(none, has_no_parts(rose))
            if size == 1:
                self.assertEqual(none, len(rose.rows) < 2)
        self.assertGreater(min(seen.values()), 80)

    def test_greater_ones(self):
        r = seeded(582)
        for _ in range(20):
            self.check_parts(any_rose(r, 3, NINE, 12))
            self.check_parts(Rose(3, 7, [(a + 1000, b, c) for a, b, c in [row_of(r, 3, 99) for _ in range(15)]]))
        # All sides are triangles, and zeros is a corner: no parts.
        ball = [(a + 60, b, c) for a, b, c in [row_of(r, 3, 40) for _ in range(60)]]
        self.assertIsNone(two_parts(Rose(3, 1, [row for row in ball if row[1] % 7 or row[2] % 5])))
        self.assertFalse(self.check_parts(Rose(3, 1, [(1, 0, 0), (0, 1, 0), (1, 1, 0), (0, 0, 1), (1, 0, 1), (0, 1, 1), (1, 1, 1)])))
        sum_of_sticks = stick_sum(3, [(row_of(r, 3, 9), (1, 2)) for _ in range(8)])
        self.assertFalse(self.check_parts(sum_of_sticks))

    def test_judge(self):
        r = seeded(583)
        for _ in range(150):
            size = r.randint(1, 3)
            one, other = any_rose(r, size, 2, r.randint(0, 3)), any_rose(r, size, 2, r.randint(0, 3))
            rose = rose_sum(one, other)
            for thing in [(one, other), (one, rose), (rose, Rose(size, 1, [])), (other, one), [one, other], (one, other, one),
                          (one,), one, (one, None), (Rose(4 - size, 1, []), rose),
                          (rose_times(rose, (1, 3)), rose_times(rose, (2, 3)))]:
                self.assertIs(is_two_parts(rose, thing), oracle_two_parts(rose, thing))
        check_odd(self, lambda thing: is_two_parts(CUBE, thing))
        self.assertIs(is_two_parts(Rose(2, 1, []), (Rose(2, 1, []), Rose(2, 1, []))), False)
        for thing in ODD:
            self.assertIs(is_two_parts(CUBE, (thing, CUBE)), False)

    def test_wrong(self):
        check_refusals(self, two_parts, {"rose": CUBE}, [("rose", BAD_ROSES, BadRose)])
        check_refusals(self, is_two_parts, {"rose": CUBE, "thing": 0}, [("rose", BAD_ROSES, BadRose)])
        fails(self, BadRose, is_two_parts, None, (CUBE, CUBE))


if __name__ == "__main__":
    unittest.main()
