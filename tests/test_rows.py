"""[10] Rows, tables and ratios."""

import itertools
import math
import unittest
from fractions import Fraction

from pacerose.errors import BadNumber, BadRatio, BadRow, BadTable
from pacerose.ratios import ratio, ratio_below, ratio_product, ratio_sum
from pacerose.rows import determinant, dot, led, plain, table_product
from tests.helpers import (BAD_NUMBERS, BAD_RATIOS, LONG, NINE, any_most, check_pure, check_refusals, fails, inner,
                           led_by, number, row_of, seeded)

BAD_ROWS = [(), [1, 2], (True, 2), (1, False), (1.0, 2), ("1", 2), (None, 1), ((1, 2), 3), (1,) * 61, None, 5, "ab", {},
            range(2)]
BAD_TABLES = [(), [(1,)], ([1],), ((1, 2),), ((1, 2), (3,)), ((True,),), ((1.0,),), (1,), None, 5, "a", ((),),
              ((1,), (2,)), ((1, 0), (0, True)), ((1,) * 61,) * 61]


def by_permutations(table):
    total = 0
    for order in itertools.permutations(range(len(table))):
        turns = sum(1 for i in range(len(order)) for k in range(i) if order[k] > order[i])
        total += (-1) ** turns * math.prod(table[i][order[i]] for i in range(len(order)))
    return total


class RowsTest(unittest.TestCase):
    def test_dot(self):
        self.assertEqual(dot((1, 2, 3), (4, -5, 6)), 12)
        self.assertEqual(dot((LONG,), (LONG,)), LONG * LONG)
        self.assertEqual(dot((NINE,) * 60, (-NINE,) * 60), -60 * NINE * NINE)
        check_refusals(self, dot, {"one": (1, 2), "other": (3, 4)},
                       [("one", BAD_ROWS, BadRow), ("other", BAD_ROWS + [(1,), (1, 2, 3)], BadRow)])

    def test_plain(self):
        for row, told in [((4, -6), (2, (2, -3))), ((0, 0), (0, (0, 0))), ((0, -5), (5, (0, -1))), ((7,), (7, (1,))),
                          ((2 * LONG, 4 * LONG), (2 * LONG, (1, 2))), ((1, 0), (1, (1, 0))), ((0,), (0, (0,)))]:
            self.assertEqual(plain(row), told)
        check_refusals(self, plain, {"row": (1, 2)}, [("row", BAD_ROWS, BadRow)])

    def test_led(self):
        self.assertEqual(led(((1, 2), (3, 4)), (5, 6)), (17, 39))
        self.assertEqual(led(((-7,),), (LONG,)), (-7 * LONG,))
        check_refusals(self, led, {"table": ((1, 2), (3, 4)), "row": (5, 6)},
                       [("table", BAD_TABLES, BadTable), ("row", BAD_ROWS + [(1,), (1, 2, 3)], BadRow)])
        fails(self, BadRow, led, ((1,),), (1, 2))

    def test_table_product(self):
        r = seeded(1)
        for _ in range(200):
            many, most = r.randint(1, 5), any_most(r)
            one, other = [tuple(row_of(r, many, most) for _ in range(many)) for _ in range(2)]
            row = row_of(r, many, most)
            told = check_pure(self, table_product, one, other)
            self.assertEqual(led(told, row), led(one, led(other, row)))
            self.assertEqual(led(one, row), led_by(one, row))
        self.assertEqual(table_product(((0, 1), (0, 0)), ((0, 0), (1, 0))), ((1, 0), (0, 0)))
        check_refusals(self, table_product, {"one": ((1, 2), (3, 4)), "other": ((0, 1), (1, 0))},
                       [("one", BAD_TABLES, BadTable), ("other", BAD_TABLES + [((1,),)], BadTable)])
        big = ((1,) * 60,) * 60
        self.assertEqual(table_product(big, big), ((60,) * 60,) * 60)

    def test_determinant(self):
        r = seeded(2)
        for _ in range(120):
            many = r.randint(1, 5)
            table = tuple(row_of(r, many, any_most(r)) for _ in range(many))
            self.assertEqual(determinant(table), by_permutations(table))
        self.assertEqual(determinant(tuple(tuple(int(i + k == 5) * 2 for k in range(6)) for i in range(6))), -64)
        self.assertEqual(determinant(((LONG, 0), (0, LONG))), LONG * LONG)
        seven = tuple(tuple(int(i == k) for k in range(7)) for i in range(7))
        check_refusals(self, determinant, {"table": ((1, 2), (3, 4))}, [("table", BAD_TABLES + [seven], BadTable)])


class RatiosTest(unittest.TestCase):
    def test_ratio(self):
        for above, below, told in [(4, -6, (-2, 3)), (0, -5, (0, 1)), (7, 1, (7, 1)), (-LONG, -LONG, (1, 1)), (0, 9, (0, 1))]:
            self.assertEqual(ratio(above, below), told)
        check_refusals(self, ratio, {"above": 1, "below": 2},
                       [("above", BAD_NUMBERS, (BadNumber, {"part": "above"})),
                        ("below", BAD_NUMBERS + [0], (BadNumber, {"part": "below"}))])

    def test_sums(self):
        r = seeded(3)
        for _ in range(500):
            one, other = [ratio(number(r, NINE), r.randint(1, any_most(r))) for _ in range(2)]
            here, there = Fraction(*one), Fraction(*other)
            for call, told in [(ratio_sum, here + there), (ratio_product, here * there)]:
                self.assertEqual(call(one, other), (told.numerator, told.denominator))
            self.assertIs(ratio_below(one, other), here < there)
            self.assertIs(ratio_below(one, one), False)

    def test_wrong(self):
        for call in (ratio_sum, ratio_product, ratio_below):
            check_refusals(self, call, {"one": (1, 2), "other": (-3, 4)},
                           [("one", BAD_RATIOS, BadRatio), ("other", BAD_RATIOS, BadRatio)])

    def test_inner(self):
        self.assertEqual(inner((1, 2), (3, 4)), dot((1, 2), (3, 4)))


if __name__ == "__main__":
    unittest.main()
