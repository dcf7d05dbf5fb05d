"""[21] What a rose holds, and which of two is never slower."""

import unittest
from fractions import Fraction

from pacerose.errors import BadRose, BadRow, BadScale, OtherSize
from pacerose.hulls import is_mixture
from pacerose.roses import Rose, going
from pacerose.ways import (are_blends, beyond, blend, blends, is_beyond, is_blend, is_slower_step, never_slower,
                           slower_step)
from tests.helpers import (BAD_ROSES, BAD_SCALES, LONG, ODD, any_rose, any_step, check_judge, check_odd, check_pure,
                           check_refusals, fails, inner, is_int_row, row_of, seeded, takes, times, value)

BAD_ROWS = [None, 5, "ab", [1, 2], (1,), (1, 2, 3), (True, 0), (1.0, 2), ()]


def oracle_blend(rose, scale, row, thing):
    """For things of the right form: what the counts make is held by the words of the document."""
    rows, goal = [times(scale, part) for part in rose.rows], times(rose.scale, row)
    return is_mixture(rows, goal, thing)


def oracle_beyond(rose, scale, row, thing):
    return is_int_row(thing, rose.size) and Fraction(inner(row, thing), scale) > takes(rose, thing)


def oracle_slower(one, other, thing):
    return is_int_row(thing, one.size) and takes(one, thing) > takes(other, thing)


class HeldTest(unittest.TestCase):
    def problem(self, r):
        size = r.randint(1, 3)
        rose = any_rose(r, size)
        scale = r.choice([1, 2, 3, rose.scale, 2 * rose.scale])
        if rose.rows and r.random() < 0.6:
            one, other = r.choice(rose.rows), r.choice(rose.rows)
            row = tuple((a + b) * scale // (2 * rose.scale) for a, b in zip(one, other))
        else:
            row = row_of(r, size, r.choice([1, 2, 5]))
        return rose, scale, row

    def test_by_hand(self):
        rose = Rose(2, 2, [(2, 0), (0, 4)])
        self.assertEqual(blend(rose, 1, (1, 0)), (1, (0, 1)))
        self.assertEqual(blend(rose, 1, (0, 0)), (1, (0, 0)))
        self.assertIsNone(blend(rose, 1, (1, 1)))
        self.assertTrue(is_beyond(rose, 1, (1, 1), (2, 1)))
        self.assertEqual(blend(Rose(2, 5, []), 3, (0, 0)), (1, ()))
        self.assertIsNone(blend(Rose(2, 5, []), 3, (0, 1)))
        self.assertIs(is_blend(Rose(1, 1, [(4,)]), 1, (2,), (2, (1,))), True)
        self.assertIs(is_blend(Rose(1, 1, [(4,)]), 1, (2,), (4, (2,))), False)

    def test_one_of_both(self):
        r = seeded(61)
        seen = {True: 0, False: 0}
        for _ in range(900):
            rose, scale, row = self.problem(r)
            told, step = blend(rose, scale, row), beyond(rose, scale, row)
            self.assertNotEqual(told is None, step is None)
            seen[told is None] += 1
            if step is None:
                self.assertTrue(oracle_blend(rose, scale, row, told))
                self.assertIs(is_blend(rose, scale, row, told), True)
                for _ in range(3):
                    other = any_step(r, rose.size)
                    self.assertIs(is_beyond(rose, scale, row, other), False)
            else:
                self.assertTrue(oracle_beyond(rose, scale, row, step))
                self.assertIs(is_beyond(rose, scale, row, step), True)
        self.assertGreater(min(seen.values()), 200)

    def test_judges(self):
        r = seeded(62)
        for _ in range(120):
            rose, scale, row = self.problem(r)
            told, step = blend(rose, scale, row), beyond(rose, scale, row)
            if step is None:
                check_judge(self, lambda thing: is_blend(rose, scale, row, thing), told,
                            lambda thing: oracle_blend(rose, scale, row, thing))
            else:
                check_judge(self, lambda thing: is_beyond(rose, scale, row, thing), step,
                            lambda thing: oracle_beyond(rose, scale, row, thing))
        check_odd(self, lambda thing: is_blend(Rose(2, 1, [(1, 2), (3, 1)]), 2, (1, 1), thing))
        check_odd(self, lambda thing: is_beyond(Rose(2, 1, [(1, 2), (3, 1)]), 2, (1, -1), thing))

    def test_pure(self):
        r = seeded(63)
        for _ in range(40):
            rose, scale, row = self.problem(r)
            check_pure(self, blend, rose, scale, row)
            check_pure(self, beyond, rose, scale, row)

    def test_wrong(self):
        good = {"rose": Rose(2, 3, [(1, 0)]), "scale": 2, "row": (1, 2)}
        wrong = [("rose", BAD_ROSES, BadRose), ("scale", BAD_SCALES, BadScale), ("row", BAD_ROWS, BadRow)]
        for call in (blend, beyond):
            check_refusals(self, call, good, wrong)
        for call in (is_blend, is_beyond):
            check_refusals(self, call, {**good, "thing": None}, wrong)


class NeverSlowerTest(unittest.TestCase):
    def problem(self, r):
        size = r.randint(1, 3)
        one, other = any_rose(r, size), any_rose(r, size)
        if other.rows and r.random() < 0.5:
            rows = [r.choice(other.rows) for _ in range(r.randint(0, 3))]
            one = Rose(size, 2 * other.scale, [tuple(a + b for a, b in zip(row, r.choice(other.rows))) for row in rows])
        return one, other

    def test_by_hand(self):
        one, other = Rose(2, 2, [(1, 1)]), Rose(2, 1, [(1, 0), (0, 1)])
        self.assertIs(never_slower(one, other), True)
        self.assertIs(never_slower(other, one), False)
        self.assertEqual(blends(one, other), {(1, 1): (2, (1, 1))})
        self.assertEqual(list(blends(other, Rose(2, 1, [(0, 2), (2, 0)]))), [(0, 1), (1, 0)])
        self.assertIsNone(blends(other, one))
        self.assertIsNone(slower_step(one, other))
        self.assertTrue(is_slower_step(other, one, slower_step(other, one)))
        self.assertEqual(blends(Rose(2, 1, []), one), {})
        self.assertIs(are_blends(Rose(2, 1, []), one, {}), True)

    def test_one_of_both(self):
        r = seeded(64)
        seen = {True: 0, False: 0}
        for _ in range(500):
            one, other = self.problem(r)
            told, step = blends(one, other), slower_step(one, other)
            seen[never_slower(one, other)] += 1
            self.assertIs(never_slower(one, other), told is not None)
            self.assertNotEqual(told is None, step is None)
            if step is None:
                self.assertEqual(list(told), list(one.rows))
                self.assertIs(are_blends(one, other, told), True)
                for row in one.rows:
                    self.assertTrue(is_blend(other, one.scale, row, told[row]))
                for _ in range(3):
                    step = any_step(r, one.size)
                    self.assertLessEqual(value(going(one, step)), value(going(other, step)))
                    self.assertIs(is_slower_step(one, other, step), False)
            else:
                self.assertTrue(oracle_slower(one, other, step))
                self.assertIs(is_slower_step(one, other, step), True)
        self.assertGreater(min(seen.values()), 80)

    def test_judges(self):
        r = seeded(65)
        for _ in range(100):
            one, other = self.problem(r)
            told, step = blends(one, other), slower_step(one, other)
            if step is None:
                check_judge(self, lambda thing: are_blends(one, other, thing), told,
                            lambda thing: all(oracle_blend(other, one.scale, row, thing[row]) for row in one.rows))
            else:
                check_judge(self, lambda thing: is_slower_step(one, other, thing), step,
                            lambda thing: oracle_slower(one, other, thing))
        one, other = Rose(2, 1, [(1, 0), (0, 1)]), Rose(2, 1, [(2, 0), (0, 2), (5, 5)])
        check_odd(self, lambda thing: are_blends(one, other, thing))
        check_odd(self, lambda thing: is_slower_step(one, other, thing))
        check_odd(self, lambda thing: is_slower_step(other, one, thing),
                  [thing for thing in ODD if oracle_slower(other, one, thing)])
        mixed = Rose(2, 1, [(1, 0)])
        self.assertIs(are_blends(mixed, mixed, {(1, 0): (1, (1,))}), True)
        self.assertIs(are_blends(mixed, mixed, {(True, 0): (1, (1,))}), False)
        self.assertIs(are_blends(mixed, mixed, {(1, False): (1, (1,))}), False)
        self.assertIs(are_blends(mixed, mixed, {(1.0, 0): (1, (1,))}), False)

    def test_pure(self):
        r = seeded(66)
        for _ in range(40):
            one, other = self.problem(r)
            for call in (never_slower, blends, slower_step):
                check_pure(self, call, one, other)

    def test_wrong(self):
        good = {"one": Rose(2, 3, [(1, 0)]), "other": Rose(2, 1, [(LONG, 1)])}
        wrong = [("one", BAD_ROSES, BadRose), ("other", BAD_ROSES, BadRose)]
        for call, more in [(never_slower, ()), (blends, ()), (slower_step, ()), (are_blends, (None,)),
                           (is_slower_step, (None,))]:
            check_refusals(self, call, {**good, **({"thing": None} if more else {})}, wrong)
            fails(self, OtherSize, call, Rose(2, 1, []), Rose(3, 1, []), *more)
            fails(self, OtherSize, call, Rose(1, 1, []), Rose(2, 1, []), *more)
            fails(self, BadRose, call, Rose(1, 1, []), None, *more)


if __name__ == "__main__":
    unittest.main()
