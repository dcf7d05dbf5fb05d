"""[31] Shares and bars, [32] claims."""

import unittest

from pacerose.claims import bar, compared, folded, is_bar, never_longer
from pacerose.errors import BadKind, BadTrip
from pacerose.kinds import Kind, mirror_kind, plain_kind, step_images
from pacerose.roses import Rose, is_kept
from pacerose.shares import images, is_shares, shares
from pacerose.sums import rose_kept
from pacerose.trips import back, end, total, trip, trip_led, trip_sum, trip_times
from tests.helpers import (BAD_KINDS, LONG, NINE, ODD, SIXTH, any_rose, any_step, check_judge, check_odd, check_pure,
                           check_refusals, cube_kind, fails, is_int, is_int_row, kinds_of, led_by, seeded, value)
from tests.test_trips import BAD_TRIPS, TRIP, any_trip


def oracle_shares(kind, one, other, thing):
    if type(thing) is not tuple or len(thing) != 2 or not is_int(thing[0]) or thing[0] < 1:
        return False
    scale, table = thing
    pairs = [(image, j) for j, (step, _) in enumerate(other) for image in {led_by(t, step) for t in kind.tables}]
    pairs = sorted(pairs)
    if type(table) is not tuple or len(table) != len(one):
        return False
    if not all(is_int_row(line, len(pairs)) and all(part >= 0 for part in line) for line in table):
        return False
    for (step, count), line in zip(one, table):
        for k in range(kind.size):
            if sum(part * image[k] for part, (image, _) in zip(line, pairs)) != scale * count * step[k]:
                return False
    return all(sum(part for line in table for part, (_, i) in zip(line, pairs) if i == j) <= scale * count
               for j, (_, count) in enumerate(other))


def oracle_bar(kind, one, other, thing):
    if type(thing) is not Rose or not is_kept(kind, thing):
        return False
    return value(total(thing, one)) > value(total(thing, other))


def problem(r, most=None):
    """Two trips of which one is often never longer than the other."""
    size = r.randint(1, 3)
    kind = r.choice(kinds_of(size))
    other = any_trip(r, size, most)
    chance = r.random()
    if chance < 0.35:
        return kind, any_trip(r, size, most), other
    if chance < 0.5:
        return kind, trip(size, [(end(size, other), 1)]), other
    one = ()
    for step, count in other:
        image = r.choice(step_images(kind, step))
        one = trip_sum(size, one, trip(size, [(image, r.randint(0, count))]))
    if len(one) > 1 and chance < 0.8:
        (a, m), (b, n) = one[:2]
        one = trip_sum(size, trip(size, [(tuple(x + y for x, y in zip(a, b)), min(m, n))]), one[2:])
    return kind, one, other


class SharesTest(unittest.TestCase):
    def test_by_hand(self):
        kind, one = plain_kind(2), (((1, 1), 2),)
        self.assertEqual(images(kind, TRIP), [((0, 1), 0), ((1, 0), 1)])
        self.assertEqual(shares(kind, one, TRIP), (1, ((2, 2),)))
        self.assertIsNone(bar(kind, one, TRIP))
        self.assertIsNone(shares(kind, TRIP, one))
        self.assertIs(is_bar(kind, TRIP, one, Rose(2, 1, [(0, 1)])), True)
        self.assertIs(is_bar(kind, TRIP, one, bar(kind, TRIP, one)), True)
        self.assertIs(never_longer(kind, one, TRIP), True)
        self.assertIs(never_longer(kind, TRIP, one), False)
        self.assertEqual(compared(kind, one, TRIP), "never longer")
        self.assertEqual(compared(kind, TRIP, one), "never shorter")
        self.assertEqual(shares(kind, (), ()), (1, ()))
        self.assertEqual(shares(kind, (), TRIP), (1, ()))
        self.assertIs(is_shares(kind, (), TRIP, (5, ())), True)
        self.assertIsNone(shares(kind, TRIP, ()))
        self.assertIs(is_shares(kind, one, TRIP, (2, ((4, 4),))), True)
        self.assertIs(is_shares(kind, one, TRIP, (2, ((4, 3),))), False)
        self.assertEqual(images(mirror_kind(1), (((1,), 2),)), [((-1,), 0), ((1,), 0)])
        self.assertEqual(images(kind, ()), [])

    def test_no_step_is_spent_too_often(self):
        kind, one, other = plain_kind(2), (((1, 0), 5),), (((1, 0), 3),)
        self.assertIs(is_shares(kind, one, other, (1, ((5,),))), False)
        self.assertIs(is_shares(kind, other, one, (1, ((3,),))), True)
        both = (((0, 1), 2), ((1, 0), 2))
        whole = (((0, 1), 1), ((1, 0), 1), ((1, 1), 3))
        self.assertIs(is_shares(kind, (((1, 1), 4),), whole, (1, ((1, 1, 3),))), True)
        self.assertIs(is_shares(kind, (((1, 1), 4),), whole, (1, ((0, 0, 4),))), False)
        self.assertIs(is_shares(kind, (((1, 1), 4),), whole, (1, ((2, 2, 2),))), False)
        self.assertIs(is_shares(mirror_kind(2), both, (((-1, 0), 2), ((0, 1), 2)), (1, ((0, 0, 2, 0), (0, 0, 0, 2)))), True)
        self.assertIs(is_shares(mirror_kind(2), both, (((-1, 0), 1), ((0, 1), 2)), (1, ((0, 0, 2, 0), (0, 0, 0, 2)))), False)

    def test_images(self):
        r = seeded(131)
        for _ in range(100):
            size = r.randint(1, 3)
            kind, told = r.choice(kinds_of(size)), any_trip(r, size)
            pairs = check_pure(self, images, kind, told)
            self.assertEqual(pairs, sorted({(led_by(table, step), j) for j, (step, _) in enumerate(told)
                                            for table in kind.tables}))

    def check_one_of_both(self, kind, one, other):
        told, rose = check_pure(self, shares, kind, one, other), check_pure(self, bar, kind, one, other)
        self.assertNotEqual(told is None, rose is None)
        self.assertIs(never_longer(kind, one, other), rose is None)
        if rose is None:
            self.assertTrue(oracle_shares(kind, one, other, told))
            self.assertIs(is_shares(kind, one, other, told), True)
        else:
            self.assertTrue(oracle_bar(kind, one, other, rose))
            self.assertIs(is_bar(kind, one, other, rose), True)
            self.assertLessEqual(len(rose.rows), len(one) * len(kind))
        return rose is None

    def test_one_of_both(self):
        r = seeded(132)
        seen = {True: 0, False: 0}
        for _ in range(500):
            kind, one, other = problem(r)
            told = self.check_one_of_both(kind, one, other)
            seen[told] += 1
            if told:
                for _ in range(3):
                    rose = rose_kept(kind, any_rose(r, kind.size))
                    self.assertLessEqual(value(total(rose, one)), value(total(rose, other)))
                    self.assertIs(is_bar(kind, one, other, rose), False)
        self.assertGreater(min(seen.values()), 60)

    def test_great_numbers(self):
        r = seeded(133)
        for _ in range(60):
            kind, one, other = problem(r, NINE)
            self.check_one_of_both(kind, one, other)
            self.check_one_of_both(kind, trip_times(kind.size, one, LONG), trip_times(kind.size, other, LONG))

    def test_the_whole_cube(self):
        kind = cube_kind()
        one, other = trip(3, [((3, 2, 2), 1), ((1, 1, 1), 2)]), trip(3, [((1, 2, 3), 2), ((1, 0, 0), 1)])
        self.check_one_of_both(kind, one, other)
        self.check_one_of_both(kind, other, one)

    def test_judges(self):
        r = seeded(134)
        for _ in range(80):
            kind, one, other = problem(r)
            told, rose = shares(kind, one, other), bar(kind, one, other)
            if rose is None:
                check_judge(self, lambda thing: is_shares(kind, one, other, thing), told,
                            lambda thing: oracle_shares(kind, one, other, thing))
                double = (2 * told[0], tuple(tuple(2 * part for part in line) for line in told[1]))
                self.assertIs(is_shares(kind, one, other, double), True)
            else:
                for near in [Rose(rose.size, rose.scale, rose.rows[1:]), Rose(rose.size, 7, rose.rows),
                             Rose(rose.size, 1, [])]:
                    self.assertIs(is_bar(kind, one, other, near), oracle_bar(kind, one, other, near))
                for size in (1, 2, 3):
                    if size != kind.size:
                        self.assertIs(is_bar(kind, one, other, Rose(size, 1, [])), False)
        kind, one = mirror_kind(2), (((1, 0), 1),)
        check_odd(self, lambda thing: is_shares(kind, one, TRIP, thing))
        check_odd(self, lambda thing: is_bar(kind, TRIP, one, thing),
                  [thing for thing in ODD if oracle_bar(kind, TRIP, one, thing)])
        self.assertIs(is_bar(kind, TRIP, one, Rose(2, 1, [(0, 1)])), False)
        self.assertIs(is_bar(kind, TRIP, one, Rose(2, 1, [(0, 1), (0, -1)])), True)

    def test_wrong(self):
        trips = [("one", BAD_TRIPS, BadTrip), ("other", BAD_TRIPS, BadTrip)]
        wrong = [("kind", BAD_KINDS, BadKind)] + trips
        good = {"kind": plain_kind(2), "one": TRIP, "other": TRIP}
        for call, more in [(shares, {}), (bar, {}), (never_longer, {}), (compared, {}), (is_shares, {"thing": None}),
                           (is_bar, {"thing": None})]:
            check_refusals(self, call, {**good, **more}, wrong)
            fails(self, BadTrip, call, plain_kind(3), TRIP, (), *more.values())
            fails(self, BadTrip, call, plain_kind(3), (), TRIP, *more.values())
        for call in (images, folded):
            check_refusals(self, call, {"kind": plain_kind(2), "trip": TRIP},
                           [("kind", BAD_KINDS, BadKind), ("trip", BAD_TRIPS, BadTrip)])
            fails(self, BadTrip, call, plain_kind(1), TRIP)


class ClaimsTest(unittest.TestCase):
    def test_folded(self):
        self.assertEqual(folded(mirror_kind(2), TRIP), (((-1, 0), 2), ((0, -1), 3)))
        self.assertEqual(folded(mirror_kind(1), (((-1,), 2), ((1,), 5))), (((-1,), 7),))
        self.assertEqual(folded(plain_kind(2), TRIP), TRIP)
        r = seeded(135)
        for _ in range(100):
            kind, one, _ = problem(r)
            told = check_pure(self, folded, kind, one)
            self.assertEqual(told, trip(kind.size, [(min(led_by(t, s) for t in kind.tables), c) for s, c in one]))
            self.assertEqual(folded(kind, told), told)

    def test_compared(self):
        r = seeded(136)
        seen = {"alike": 0, "never longer": 0, "never shorter": 0, "open": 0}
        for _ in range(400):
            kind, one, other = problem(r)
            if r.random() < 0.2:
                other = trip_led(kind.size, one, r.choice(kind.tables))
                self.assertEqual(compared(kind, one, other), "alike")
            elif r.random() < 0.3:
                one, other = other, one
            told = check_pure(self, compared, kind, one, other)
            seen[told] += 1
            here, there = never_longer(kind, one, other), never_longer(kind, other, one)
            self.assertEqual(told == "alike", here and there)
            self.assertEqual(told == "alike", folded(kind, one) == folded(kind, other))
            if told != "alike":
                self.assertEqual(told, "never longer" if here else "never shorter" if there else "open")
        self.assertGreater(min(seen.values()), 20)

    def test_facts(self):
        r = seeded(137)
        for _ in range(150):
            kind, one, other = problem(r)
            size = kind.size
            told = never_longer(kind, one, other)
            n = r.randint(1, 5)
            self.assertEqual(never_longer(kind, trip_times(size, one, n), trip_times(size, other, n)), told)
            _, here, there = problem(r)
            if told and (here == () or len(here[0][0]) == size) and (there == () or len(there[0][0]) == size):
                if never_longer(kind, here, there):
                    self.assertTrue(never_longer(kind, trip_sum(size, one, here), trip_sum(size, other, there)))
            if told:
                for wider in kinds_of(size):
                    if set(kind.tables) <= set(wider.tables):
                        self.assertTrue(never_longer(wider, one, other))
            whole_one, whole_other = (), ()
            for table in kind.tables:
                whole_one = trip_sum(size, whole_one, trip_led(size, one, table))
                whole_other = trip_sum(size, whole_other, trip_led(size, other, table))
            self.assertEqual(never_longer(plain_kind(size), whole_one, whole_other), told)
            plain = never_longer(plain_kind(size), one, other)
            gap = tuple(a - b for a, b in zip(end(size, other), end(size, one)))
            more = trip_sum(size, one, trip(size, [(gap, 1)]))
            self.assertEqual(never_longer(plain_kind(size), more, other), plain)

    def test_equal_and_opposite_steps(self):
        there_and_back = trip_sum(2, TRIP, back(2, TRIP))
        self.assertEqual(compared(mirror_kind(2), there_and_back, trip_times(2, TRIP, 2)), "alike")
        self.assertEqual(compared(plain_kind(2), there_and_back, trip_times(2, TRIP, 2)), "open")
        self.assertEqual(compared(plain_kind(2), (), there_and_back), "never longer")
        self.assertEqual(compared(Kind(2, [SIXTH]), (((1, 0), 1),), (((0, 1), 1),)), "alike")
        self.assertEqual(compared(plain_kind(1), (((-1,), 1),), (((1,), 1),)), "open")
        r = seeded(138)
        for _ in range(30):
            size = r.randint(1, 3)
            step = any_step(r, size)
            there = trip(size, [(step, 1)])
            twice = trip(size, [(step, 1), (step, 1)])
            self.assertEqual(twice, trip_times(size, there, 2))
            self.assertEqual(compared(plain_kind(size), there, there), "alike")


if __name__ == "__main__":
    unittest.main()
