"""[22] Sums of roses."""

import unittest
from fractions import Fraction

from pacerose.errors import BadKind, BadRatio, BadRose, BadTable, OtherSize
from pacerose.kinds import mirror_kind, plain_kind
from pacerose.roses import Rose, going, is_kept
from pacerose.sums import (is_unkept, rose_greater, rose_kept, rose_led, rose_round, rose_sum, rose_times, unkept)
from pacerose.ways import never_slower
from tests.helpers import (BAD_KINDS, BAD_RATIOS, BAD_ROSES, LONG, ODD, any_rose, any_step, check_judge, check_odd, check_pure,
                           check_refusals, cube_kind, fails, is_int, is_int_row, kinds_of, led_by, row_of, seeded,
                           takes, value)

BAD_TABLES = [None, 5, "ab", ((1,),), [(1, 0), (0, 1)], ((1, 0), [0, 1]), ((True, 0), (0, 1)), ((1.0, 0), (0, 1)), (),
              ((1, 0),), ((1, 0), (0, 1), (0, 0)), ((1, 0, 0), (0, 1, 0), (0, 0, 1))]


def flat_rose(r):
    """A rose in space whose rows are on one plane or one line."""
    base = [row_of(r, 3, 2) for _ in range(r.choice([1, 2]))]
    rows = []
    for _ in range(r.randint(0, 4)):
        parts = [r.randint(-2, 2) for _ in base]
        rows.append(tuple(sum(p * b[k] for p, b in zip(parts, base)) for k in range(3)))
    return Rose(3, r.randint(1, 3), rows)


def some_rose(r, size):
    return flat_rose(r) if size == 3 and r.random() < 0.4 else any_rose(r, size)


class SumsTest(unittest.TestCase):
    def test_by_hand(self):
        one, other = Rose(2, 1, [(1, 0)]), Rose(2, 2, [(0, 1)])
        self.assertEqual(rose_sum(one, other), Rose(2, 2, [(2, 0), (0, 1), (2, 1)]))
        self.assertEqual(rose_greater(one, other), Rose(2, 2, [(2, 0), (0, 1)]))
        self.assertEqual(rose_times(one, (3, 2)), Rose(2, 2, [(3, 0)]))
        self.assertEqual(rose_times(one, (0, 1)), Rose(2, 1, []))
        self.assertEqual(rose_led(one, ((2, 1), (0, 0))), Rose(2, 1, [(2, 1)]))
        self.assertEqual(rose_led(one, ((0, 0), (0, 0))), Rose(2, 1, []))
        self.assertEqual(rose_sum(Rose(1, 1, [(2,)]), Rose(1, 3, [(-1,), (1,)])), Rose(1, 3, [(7,), (-1,)]))
        self.assertEqual(rose_kept(mirror_kind(2), one), Rose(2, 1, [(1, 0), (-1, 0)]))
        self.assertEqual(rose_round(mirror_kind(2), one), Rose(2, 1, [(1, 0), (-1, 0)]))
        self.assertEqual(rose_sum(Rose(3, 1, []), Rose(3, 1, [])), Rose(3, 1, []))

    def test_two_roses(self):
        r = seeded(71)
        for _ in range(250):
            size = r.randint(1, 3)
            one, other, third = [some_rose(r, size) for _ in range(3)]
            both, slow = check_pure(self, rose_sum, one, other), check_pure(self, rose_greater, one, other)
            for _ in range(6):
                step = any_step(r, size)
                self.assertEqual(takes(both, step), takes(one, step) + takes(other, step))
                self.assertEqual(takes(slow, step), max(takes(one, step), takes(other, step)))
            self.assertEqual(both, rose_sum(other, one))
            self.assertEqual(rose_sum(slow, third), rose_greater(rose_sum(one, third), rose_sum(other, third)))

    def test_times_and_led(self):
        r = seeded(72)
        for _ in range(200):
            size = r.randint(1, 3)
            rose = some_rose(r, size)
            told = Fraction(r.randint(0, 9), r.randint(1, 9))
            longer = check_pure(self, rose_times, rose, (told.numerator, told.denominator))
            table = tuple(row_of(r, size, r.choice([1, 2, 9])) for _ in range(size))
            led = check_pure(self, rose_led, rose, table)
            for _ in range(5):
                step = any_step(r, size)
                self.assertEqual(takes(longer, step), told * takes(rose, step))
                self.assertEqual(takes(led, step), takes(rose, led_by(table, step)))

    def test_kinds(self):
        r = seeded(73)
        for _ in range(150):
            size = r.randint(1, 3)
            kind, rose = r.choice(kinds_of(size)), some_rose(r, size)
            kept, whole = check_pure(self, rose_kept, kind, rose), check_pure(self, rose_round, kind, rose)
            self.assertTrue(is_kept(kind, kept) and is_kept(kind, whole))
            self.assertTrue(never_slower(rose, kept))
            for _ in range(5):
                step = any_step(r, size)
                times = [takes(rose, led_by(table, step)) for table in kind.tables]
                self.assertEqual(takes(kept, step), max(times))
                self.assertEqual(takes(whole, step), sum(times))
            more = rose_kept(kind, rose_greater(rose, some_rose(r, size)))
            self.assertTrue(never_slower(kept, more))
            self.assertEqual(kept == rose, is_kept(kind, rose))

    def test_the_whole_cube(self):
        rose = Rose(3, 1, [(1, 2, 4)])
        kind = cube_kind()
        kept, whole = rose_kept(kind, rose), rose_round(kind, rose)
        self.assertEqual(len(kept.rows), 48)
        for step in [(1, 0, 0), (1, 1, 0), (5, -3, 2), (0, 0, 0), (1, 1, 1)]:
            times = [takes(rose, led_by(table, step)) for table in kind.tables]
            self.assertEqual(value(going(kept, step)), max(times))
            self.assertEqual(value(going(whole, step)), sum(times))
        self.assertTrue(is_kept(kind, whole))

    def test_wrong(self):
        two = {"one": Rose(2, 1, [(1, 0)]), "other": Rose(2, 1, [])}
        wrong = [("one", BAD_ROSES, BadRose), ("other", BAD_ROSES, BadRose)]
        for call in (rose_sum, rose_greater):
            check_refusals(self, call, two, wrong)
            fails(self, OtherSize, call, Rose(2, 1, []), Rose(3, 1, []))
            fails(self, BadRose, call, Rose(2, 1, []), None)
        check_refusals(self, rose_times, {"rose": Rose(2, 1, []), "ratio": (1, 2)},
                       [("rose", BAD_ROSES, BadRose), ("ratio", BAD_RATIOS + [(-1, 2), (-1, 1)], BadRatio)])
        check_refusals(self, rose_led, {"rose": Rose(2, 1, []), "table": ((1, 0), (5, 5))},
                       [("rose", BAD_ROSES, BadRose), ("table", BAD_TABLES, BadTable)])
        for call, more in [(rose_kept, {}), (rose_round, {}), (unkept, {}), (is_unkept, {"thing": None})]:
            check_refusals(self, call, {"kind": plain_kind(2), "rose": Rose(2, 1, []), **more},
                           [("kind", BAD_KINDS, BadKind), ("rose", BAD_ROSES, BadRose)])
            fails(self, OtherSize, call, plain_kind(1), Rose(2, 1, []), *more.values())
            fails(self, BadRose, call, plain_kind(1), None, *more.values())


class UnkeptTest(unittest.TestCase):
    def oracle(self, kind, rose, thing):
        if type(thing) is not tuple or len(thing) != 2 or not is_int(thing[0]) or not is_int_row(thing[1], rose.size):
            return False
        k, step = thing
        return 0 <= k < len(kind) and takes(rose, led_by(kind.tables[k], step)) != takes(rose, step)

    def test_one_of_both(self):
        r = seeded(74)
        seen = {True: 0, False: 0}
        for _ in range(250):
            size = r.randint(1, 3)
            kind, rose = r.choice(kinds_of(size)), some_rose(r, size)
            if r.random() < 0.4:
                rose = rose_kept(kind, rose)
            told = check_pure(self, unkept, kind, rose)
            seen[told is None] += 1
            self.assertEqual(told is None, is_kept(kind, rose))
            if told is not None:
                self.assertTrue(self.oracle(kind, rose, told))
                check_judge(self, lambda thing: is_unkept(kind, rose, thing), told,
                            lambda thing: self.oracle(kind, rose, thing))
                self.assertIs(is_unkept(kind, rose, (told[0] - len(kind), told[1])), False)
                self.assertIs(is_unkept(kind, rose, (len(kind), told[1])), False)
                self.assertIs(is_unkept(kind, rose, (LONG, told[1])), False)
            else:
                for _ in range(3):
                    thing = (r.randrange(len(kind)), any_step(r, size))
                    self.assertIs(is_unkept(kind, rose, thing), False)
        self.assertGreater(min(seen.values()), 60)

    def test_odd(self):
        kind, rose = mirror_kind(2), Rose(2, 1, [(1, 0)])
        check_odd(self, lambda thing: is_unkept(kind, rose, thing),
                  [thing for thing in ODD if self.oracle(kind, rose, thing)])


if __name__ == "__main__":
    unittest.main()
