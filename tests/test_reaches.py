"""[25] Idle steps, spreads and reaches."""

import unittest
from fractions import Fraction

from pacerose.deals import is_deal
from pacerose.errors import BadEnds, BadRose, BadScale, BadTime, Endless, NotFlat
from pacerose.mixes import mixed_rose
from pacerose.reaches import idle_step, is_idle_step, is_spread, reach, rose_of_reach, spread
from pacerose.roses import Rose, going
from pacerose.sectors import rays
from pacerose.shells import extreme
from tests.helpers import (BAD_RATIOS, BAD_ROSES, BAD_SCALES, LONG, ODD, any_rose, check_judge, check_odd, check_pure,
                           check_refusals, fails, is_int_row, rows_of, seeded, takes, times, value, without_divisor)
from tests.test_sectors import angle
from tests.test_sums import some_rose

BAD_ENDS = [None, 5, "ab", {}, [], [(0, 0)], [(1, 0), (-1, 0)], [(1, 0), (0, 1)], [(1, 0), (0, 1), (-1, 0)],
            [(1, 0), (0, 1), (0, 0)], [(1, 1), (3, 1), (2, 5)], [(1, 0), (-1, 1), (-1, -1), (True, 0)],
            [(1, 0), (-1, 1), [-1, -1]], [(1, 0), (-1, 1), (-1, -1, 0)], [(1.0, 0), (-1, 1), (-1, -1)], [(1,), (-1,)],
            [(1, 0), (-1, 1), (-1, -1), None], [(2, 0), (-2, 0), (1, 0), (-1, 0)], [(1, 1), (-1, -1), (5, 5), (3, 3)]]


def around_zeros(r, most, count):
    """Rows with zeros within their hull, or None."""
    rows = rows_of(r, 2, count, most)
    rose = Rose(2, 1, rows)
    return rows if idle_step(rose) is None else None


class IdleTest(unittest.TestCase):
    def oracle_spread(self, rose, thing):
        goals = []
        for k in range(rose.size):
            unit = tuple(int(i == k) for i in range(rose.size))
            goals += [unit, times(-1, unit)]
        if type(thing) not in (list, tuple) or len(thing) != len(goals):
            return False
        return all(is_deal(rose.rows, goal, deal) for goal, deal in zip(goals, thing))

    def oracle_idle(self, rose, thing):
        return is_int_row(thing, rose.size) and any(thing) and takes(rose, thing) == 0

    def test_by_hand(self):
        self.assertEqual(spread(Rose(1, 7, [(2,), (-3,)])), [(2, (0, 1)), (3, (1, 0))])
        self.assertIsNone(idle_step(Rose(1, 7, [(2,), (-3,)])))
        self.assertIsNone(spread(Rose(1, 1, [(2,)])))
        self.assertTrue(is_idle_step(Rose(1, 1, [(2,)]), (-5,)))
        self.assertIs(is_idle_step(Rose(1, 1, [(2,)]), (0,)), False)
        for size in (1, 2, 3):
            self.assertIsNone(spread(Rose(size, 1, [])))
            self.assertTrue(is_idle_step(Rose(size, 1, []), (LONG,) * size))

    def test_one_of_both(self):
        r = seeded(101)
        seen = {True: 0, False: 0}
        for _ in range(400):
            rose = some_rose(r, r.randint(1, 3))
            step, deals = check_pure(self, idle_step, rose), check_pure(self, spread, rose)
            self.assertNotEqual(step is None, deals is None)
            seen[step is None] += 1
            if deals is None:
                check_judge(self, lambda thing: is_idle_step(rose, thing), step,
                            lambda thing: self.oracle_idle(rose, thing))
                self.assertTrue(self.oracle_idle(rose, step))
            else:
                self.assertIs(type(deals), list)
                self.assertTrue(self.oracle_spread(rose, deals))
                self.assertIs(is_spread(rose, tuple(deals)), True)
                check_judge(self, lambda thing: is_spread(rose, thing), deals,
                            lambda thing: self.oracle_spread(rose, thing))
        self.assertGreater(min(seen.values()), 60)

    def test_odd(self):
        for rose in [Rose(2, 1, [(1, 0), (-1, 1), (-1, -1)]), Rose(2, 1, [(1, 1)]), Rose(1, 1, [(1,), (-1,)])]:
            check_odd(self, lambda thing: is_idle_step(rose, thing),
                      [thing for thing in ODD if self.oracle_idle(rose, thing)])
            check_odd(self, lambda thing: is_spread(rose, thing))

    def test_wrong(self):
        good = {"rose": Rose(2, 1, [(1, 0)])}
        for call in (idle_step, spread):
            check_refusals(self, call, good, [("rose", BAD_ROSES, BadRose)])
        for call in (is_idle_step, is_spread):
            check_refusals(self, call, {**good, "thing": None}, [("rose", BAD_ROSES, BadRose)])


class ReachTest(unittest.TestCase):
    def test_by_hand(self):
        square = Rose(2, 1, [(1, 0), (0, 1), (-1, 0), (0, -1)])
        self.assertEqual(reach(square, (1, 1)), (1, [(1, 1), (-1, 1), (-1, -1), (1, -1)]))
        self.assertEqual(reach(square, (3, 2)), (2, [(3, 3), (-3, 3), (-3, -3), (3, -3)]))
        self.assertEqual(rose_of_reach(1, [(1, 1), (-1, 1), (-1, -1), (1, -1), (0, 0), (1, 0)]), square)
        self.assertEqual(rose_of_reach(2, [(1, 1), (-1, 1), (-1, -1), (1, -1)]), Rose(2, 1, [(2, 0), (0, 2), (-2, 0), (0, -2)]))

    def test_reach(self):
        r = seeded(102)
        many = 0
        for _ in range(500):
            rose = any_rose(r, 2, r.choice([1, 2, 5, 30, 10 ** 9]), r.randint(3, 9))
            if idle_step(rose) is not None:
                fails(self, Endless, reach, rose, (1, 1))
                continue
            many += 1
            time = Fraction(r.randint(1, 9), r.randint(1, 9))
            scale, ends = check_pure(self, reach, rose, (time.numerator, time.denominator))
            self.assertTrue(without_divisor([scale, *[part for end in ends for part in end]]) and scale >= 1)
            turned = rays(rose)
            self.assertEqual(len(ends), len(turned))
            for end, ray in zip(ends, turned):
                self.assertEqual(end[0] * ray[1], end[1] * ray[0])
                self.assertGreater(end[0] * ray[0] + end[1] * ray[1], 0)
                self.assertEqual(value(going(rose, end)), time * scale)
            self.assertEqual(ends, sorted(ends, key=angle))
            self.assertEqual(extreme(ends), sorted(ends))
            whole, ends = reach(rose, (1, 1))
            self.assertEqual(rose_of_reach(whole, ends), rose)
        self.assertGreater(many, 150)

    def test_rose_of_reach(self):
        r = seeded(103)
        many = 0
        for _ in range(400):
            ends = rows_of(r, 2, r.randint(3, 8), r.choice([1, 3, 20]))
            if idle_step(Rose(2, 1, ends)) is not None:
                fails(self, BadEnds, rose_of_reach, 1, ends)
                continue
            many += 1
            scale = r.choice([1, 2, 6])
            rose = check_pure(self, rose_of_reach, scale, ends)
            whole, told = reach(rose, (1, 1))
            corners = extreme(ends)
            self.assertEqual(sorted((Fraction(a, whole), Fraction(b, whole)) for a, b in told),
                             sorted((Fraction(a, scale), Fraction(b, scale)) for a, b in corners))
            self.assertEqual({value(going(rose, end)) for end in corners}, {Fraction(scale)})
            self.assertTrue(all(value(going(rose, end)) <= scale for end in ends))
        self.assertGreater(many, 100)

    def test_reach_of_a_mixed_rose(self):
        r = seeded(104)
        many = 0
        while many < 60:
            one, other = around_zeros(r, 5, 6), around_zeros(r, 5, 6)
            if one is None or other is None:
                continue
            many += 1
            one, other = Rose(2, r.randint(1, 3), one), Rose(2, r.randint(1, 3), other)
            (a, here), (b, there), (c, both) = [reach(rose, (1, 1)) for rose in (one, other, mixed_rose(one, other))]
            points = extreme([times(b * c, end) for end in here] + [times(a * c, end) for end in there])
            self.assertEqual(points, sorted(times(a * b, end) for end in both))

    def test_wrong(self):
        square = Rose(2, 1, [(1, 0), (0, 1), (-1, 0), (0, -1)])
        check_refusals(self, reach, {"rose": square, "time": (1, 1)},
                       [("rose", BAD_ROSES, BadRose), ("time", BAD_RATIOS + [(0, 1), (-1, 2)], BadTime)])
        for size in (1, 3):
            fails(self, NotFlat, reach, Rose(size, 1, []), (1, 1))
            fails(self, BadTime, reach, Rose(size, 1, []), (0, 1))
        fails(self, Endless, reach, Rose(2, 1, []), (1, 1))
        fails(self, Endless, reach, Rose(2, 1, [(1, 0), (-1, 0)]), (1, 1))
        fails(self, BadTime, reach, Rose(2, 1, []), (-1, 1))
        check_refusals(self, rose_of_reach, {"scale": 1, "ends": [(1, 0), (-1, 1), (-1, -1)]},
                       [("scale", BAD_SCALES, BadScale), ("ends", BAD_ENDS, BadEnds)])


if __name__ == "__main__":
    unittest.main()
