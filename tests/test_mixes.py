"""[23] Ways of which each part may be gone by either of two roses."""

import unittest
from fractions import Fraction

from pacerose.errors import BadRose, BadStep, NotFlat, OtherSize
from pacerose.hulls import mixture
from pacerose.mixes import are_mixed, best_row, best_split, mixed_going, mixed_rose
from pacerose.ratios import ratio_sum
from pacerose.roses import Rose, going
from pacerose.sums import rose_greater, rose_sum
from pacerose.ways import never_slower
from tests.helpers import (BAD_RATIOS, BAD_ROSES, ODD, any_rose, any_step, check_pure, check_refusals, fails, inner,
                           is_int, is_int_row, other_kinds, other_numbers, seeded, takes, times, value)
from tests.test_sums import some_rose

BAD_STEPS = [None, 5, "ab", [1, 2], (1,), (1, 2, 3), (True, 0), (1.0, 2), ()]


def held(rose, scale, row):
    return mixture([times(scale, part) for part in rose.rows], times(rose.scale, row)) is not None


def is_scaled(thing, size):
    return (type(thing) is tuple and len(thing) == 2 and is_int(thing[0]) and thing[0] >= 1
            and is_int_row(thing[1], size))


def oracle_split(one, other, step, told, split):
    if not is_scaled(split, one.size):
        return False
    scale, first = split
    last = tuple(scale * a - b for a, b in zip(step, first))
    return (takes(one, first) + takes(other, last)) / scale == told


def oracle_row(one, other, step, told, common):
    if not is_scaled(common, one.size):
        return False
    scale, row = common
    return held(one, scale, row) and held(other, scale, row) and Fraction(inner(row, step), scale) == told


class MixesTest(unittest.TestCase):
    def test_by_hand(self):
        one, other = Rose(2, 1, [(1, 0), (3, 3)]), Rose(2, 1, [(0, 1), (3, 3)])
        self.assertEqual(mixed_going(one, other, (1, 1)), (6, 1))
        one, other = Rose(2, 1, [(1, 0), (-1, 0), (0, 4), (0, -4)]), Rose(2, 1, [(4, 0), (-4, 0), (0, 1), (0, -1)])
        self.assertEqual(mixed_going(one, other, (1, 1)), (8, 5))
        self.assertEqual(mixed_going(one, other, (1, 0)), (1, 1))
        self.assertEqual(mixed_going(one, other, (0, 0)), (0, 1))
        self.assertEqual(mixed_going(one, Rose(2, 1, []), (5, 7)), (0, 1))
        self.assertEqual(mixed_rose(one, Rose(2, 1, [])), Rose(2, 1, []))
        self.assertEqual(mixed_rose(Rose(2, 1, [(2, 0)]), Rose(2, 1, [(0, 2)])), Rose(2, 1, []))
        self.assertEqual(mixed_rose(Rose(2, 2, [(2, 0)]), Rose(2, 3, [(2, 0), (0, 2)])), Rose(2, 3, [(2, 0)]))
        self.assertEqual(mixed_rose(Rose(1, 2, [(3,), (-1,)]), Rose(1, 3, [(2,), (-4,)])), Rose(1, 6, [(4,), (-3,)]))
        self.assertEqual(mixed_rose(one, other), Rose(2, 5, [(5, 0), (-5, 0), (0, 5), (0, -5), (4, 4), (-4, 4), (4, -4),
                                                             (-4, -4)]))

    def test_papers(self):
        r = seeded(81)
        for _ in range(300):
            size = r.randint(1, 3)
            one, other, step = some_rose(r, size), some_rose(r, size), any_step(r, size)
            told = check_pure(self, mixed_going, one, other, step)
            split = check_pure(self, best_split, one, other, step)
            common = check_pure(self, best_row, one, other, step)
            self.assertTrue(oracle_split(one, other, step, value(told), split))
            self.assertTrue(oracle_row(one, other, step, value(told), common))
            self.assertIs(are_mixed(one, other, step, told, split, common), True)
            self.assertIs(are_mixed(one, other, step, told, (3 * split[0], times(3, split[1])), common), True)
            self.assertIs(are_mixed(one, other, step, told, split, (3 * common[0], times(3, common[1]))), True)
            for wrong in [ratio_sum(told, (1, 7)), ratio_sum(told, (-1, 7))]:
                self.assertIs(are_mixed(one, other, step, wrong, split, common), False)
            self.assertLessEqual(value(told), min(takes(one, step), takes(other, step)))
            first = any_step(r, size, 3)
            last = tuple(a - b for a, b in zip(step, first))
            self.assertGreaterEqual(takes(one, first) + takes(other, last), value(told))

    def test_judge(self):
        r = seeded(82)
        for _ in range(60):
            size = r.randint(1, 3)
            one, other, step = any_rose(r, size, 3), any_rose(r, size, 3), any_step(r, size, 3)
            told = mixed_going(one, other, step)
            split, common = best_split(one, other, step), best_row(one, other, step)
            for wrong in [*other_kinds(told), *BAD_RATIOS]:
                self.assertIs(are_mixed(one, other, step, wrong, split, common), False)
            for wrong in other_kinds(split):
                self.assertIs(are_mixed(one, other, step, told, wrong, common), False)
            for wrong in other_kinds(common):
                self.assertIs(are_mixed(one, other, step, told, split, wrong), False)
            for near in other_numbers(split):
                self.assertIs(are_mixed(one, other, step, told, near, common),
                              oracle_split(one, other, step, value(told), near))
            for near in other_numbers(common):
                self.assertIs(are_mixed(one, other, step, told, split, near),
                              oracle_row(one, other, step, value(told), near))
            for thing in ODD:
                self.assertIs(are_mixed(one, other, step, told, split, thing),
                              oracle_row(one, other, step, value(told), thing))
                self.assertIs(are_mixed(one, other, step, told, thing, common),
                              oracle_split(one, other, step, value(told), thing))
                self.assertIs(are_mixed(one, other, step, thing, thing, thing), False)

    def test_rose(self):
        r = seeded(83)
        for _ in range(150):
            size = r.randint(1, 2)
            one, other = any_rose(r, size), any_rose(r, size)
            if r.random() < 0.2:
                one = Rose(size, one.scale, one.rows[:1])
            told = check_pure(self, mixed_rose, one, other)
            self.assertEqual(told, mixed_rose(other, one))
            for _ in range(5):
                step = any_step(r, size)
                self.assertEqual(going(told, step), mixed_going(one, other, step))
            self.assertTrue(never_slower(told, one) and never_slower(told, other))
            self.assertTrue(never_slower(rose_sum(told, rose_greater(one, other)), rose_sum(one, other)))
            third = any_rose(r, size, 1)
            if never_slower(third, one) and never_slower(third, other):
                self.assertTrue(never_slower(third, told))
            if never_slower(one, other):
                self.assertEqual(told, one)

    def test_wrong(self):
        good = {"one": Rose(2, 1, [(1, 0)]), "other": Rose(2, 1, []), "step": (1, 2)}
        wrong = [("one", BAD_ROSES, BadRose), ("other", BAD_ROSES, BadRose), ("step", BAD_STEPS, BadStep)]
        for call in (mixed_going, best_split, best_row):
            check_refusals(self, call, good, wrong)
            fails(self, OtherSize, call, Rose(2, 1, []), Rose(3, 1, []), (1, 2))
            fails(self, BadStep, call, Rose(2, 1, []), Rose(3, 1, []), (1, 2, 3))
        check_refusals(self, are_mixed, {**good, "told": None, "split": None, "common": None}, wrong)
        fails(self, OtherSize, are_mixed, Rose(2, 1, []), Rose(3, 1, []), (1, 2), None, None, None)
        check_refusals(self, mixed_rose, {"one": Rose(2, 1, [(1, 0)]), "other": Rose(2, 1, [])}, wrong[:2])
        fails(self, NotFlat, mixed_rose, Rose(3, 1, []), Rose(3, 1, []))
        fails(self, OtherSize, mixed_rose, Rose(3, 1, []), Rose(2, 1, []))
        fails(self, OtherSize, mixed_rose, Rose(2, 1, []), Rose(3, 1, []))
        fails(self, BadRose, mixed_rose, Rose(3, 1, []), None)


if __name__ == "__main__":
    unittest.main()
