"""[33] How many times as long as another trip one trip can take at most."""

import unittest
from fractions import Fraction

from pacerose.claims import never_longer
from pacerose.deals import dealt
from pacerose.errors import BadKind, BadTrip
from pacerose.factors import factor_rose, factor_shares, least_factor
from pacerose.kinds import Kind, mirror_kind, plain_kind
from pacerose.roses import Rose, is_kept
from pacerose.rows import table_product
from pacerose.shares import images, is_shares
from pacerose.sums import rose_kept
from pacerose.trips import total, trip_led, trip_times
from tests.helpers import (BAD_KINDS, NINE, any_rose, check_pure, check_refusals, cube_kind, fails, kinds_of, seeded, value)
from tests.test_claims import problem
from tests.test_trips import BAD_TRIPS, TRIP, any_trip


class FactorsTest(unittest.TestCase):
    def test_by_hand(self):
        kind = plain_kind(2)
        self.assertEqual(least_factor(kind, (((1, 1), 2),), TRIP), (1, 1))
        self.assertEqual(least_factor(kind, (((1, 1), 1),), TRIP), (1, 2))
        self.assertIsNone(least_factor(kind, TRIP, (((1, 1), 2),)))
        self.assertEqual(least_factor(mirror_kind(1), (((1,), 7),), (((-1,), 3),)), (7, 3))
        self.assertIsNone(least_factor(plain_kind(1), (((1,), 7),), (((-1,), 3),)))
        self.assertEqual(least_factor(kind, (), TRIP), (0, 1))
        self.assertEqual(least_factor(kind, (), ()), (0, 1))
        self.assertIsNone(least_factor(kind, TRIP, ()))
        self.assertEqual(factor_shares(kind, (), TRIP), (1, ()))
        self.assertEqual(factor_shares(kind, (), ()), (1, ()))
        self.assertIsNone(factor_shares(kind, TRIP, ()))
        self.assertIsNone(factor_rose(kind, (), ()))
        self.assertIsNone(factor_rose(kind, (), TRIP))
        rose = factor_rose(kind, TRIP, ())
        self.assertIs(type(rose), Rose)
        self.assertGreater(value(total(rose, TRIP)), 0)

    def check_factor(self, kind, one, other):
        size = kind.size
        factor = check_pure(self, least_factor, kind, one, other)
        told = check_pure(self, factor_shares, kind, one, other)
        rose = check_pure(self, factor_rose, kind, one, other)
        if one == ():
            self.assertEqual((factor, rose), ((0, 1), None))
            self.assertTrue(is_shares(kind, (), (), told))
            return factor
        self.assertTrue(is_kept(kind, rose))
        if factor is None:
            self.assertIsNone(told)
            self.assertEqual(total(rose, other), (0, 1))
            self.assertGreater(value(total(rose, one)), 0)
        else:
            above, below = factor
            self.assertTrue(is_shares(kind, trip_times(size, one, below), trip_times(size, other, above), told))
            self.assertGreater(value(total(rose, other)), 0)
            self.assertEqual(value(total(rose, one)), value(factor) * value(total(rose, other)))
        columns = [image for image, _ in images(kind, other)]
        unmade = any(dealt(columns, step) is None for step, _ in one)
        self.assertEqual(factor is None, unmade)
        return factor

    def test_many(self):
        r = seeded(141)
        seen = {True: 0, False: 0}
        for _ in range(300):
            kind, one, other = problem(r)
            factor = self.check_factor(kind, one, other)
            seen[factor is None] += 1
            if factor is not None and one:
                self.assertEqual(value(factor) <= 1, never_longer(kind, one, other))
                less = value(factor) - Fraction(1, 1000)
                if less > 0:
                    self.assertFalse(never_longer(kind, trip_times(kind.size, one, less.denominator),
                                                  trip_times(kind.size, other, less.numerator)))
                rose = rose_kept(kind, any_rose(r, kind.size))
                self.assertLessEqual(value(total(rose, one)), value(factor) * value(total(rose, other)))
        self.assertGreater(min(seen.values()), 20)

    def test_great_numbers(self):
        r = seeded(142)
        for _ in range(40):
            self.check_factor(*problem(r, NINE))
        self.check_factor(cube_kind(), (((1, 2, 3), 2), ((2, 3, 3), 1)), (((0, 1, 1), 2),))

    def test_other_coordinates(self):
        r = seeded(143)
        table, undone = ((1, 2), (1, 3)), ((3, -2), (-1, 1))
        for _ in range(60):
            kind = r.choice(kinds_of(2))
            one, other = any_trip(r, 2), any_trip(r, 2)
            turned = Kind(2, [table_product(table, table_product(held, undone)) for held in kind.tables])
            here, there = trip_led(2, one, table), trip_led(2, other, table)
            self.assertEqual(least_factor(turned, here, there), least_factor(kind, one, other))
            self.assertEqual(never_longer(turned, here, there), never_longer(kind, one, other))

    def test_size_one_by_two_goings(self):
        r = seeded(144)
        for _ in range(100):
            one, other = any_trip(r, 1), any_trip(r, 1)
            here, there = dict(one), dict(other)
            told = least_factor(plain_kind(1), one, other)
            if any(step not in there for step in here):
                self.assertIsNone(told)
            else:
                self.assertEqual(value(told), max([Fraction(0)] + [Fraction(here[s], there[s]) for s in here]))

    def test_wrong(self):
        wrong = [("kind", BAD_KINDS, BadKind), ("one", BAD_TRIPS, BadTrip), ("other", BAD_TRIPS, BadTrip)]
        for call in (least_factor, factor_shares, factor_rose):
            check_refusals(self, call, {"kind": plain_kind(2), "one": TRIP, "other": TRIP}, wrong)
            fails(self, BadTrip, call, plain_kind(3), (), TRIP)


if __name__ == "__main__":
    unittest.main()
