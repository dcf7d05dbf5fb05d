"""[20] Roses."""

import unittest

from pacerose.errors import BadKind, BadRose, BadRows, BadScale, BadSize, BadStep, BadSteps
from pacerose.hulls import corners, mixture
from pacerose.kinds import mirror_kind, plain_kind
from pacerose.roses import Rose, adds_up, going, is_kept, leading
from tests.helpers import (BAD_KINDS, BAD_ROSES, BAD_SCALES, BAD_SIZES, LONG, NINE, ODD, any_rose, any_step, check_pure,
                           check_refusals, cube_kind, inner, kinds_of, led_by, plus, rows_of, seeded, takes, times,
                           value, without_divisor)

BAD_ROWS = [None, 5, "ab", {}, [(1,)], [(1, 2, 3)], [[1, 2]], [(True, 0)], [(1.0, 0)], [(1, 2), None], [()], (1, 2), [1, 2],
            {(1, 2): 1}]
BAD_STEPS = [None, 5, "ab", [1, 2], (1,), (1, 2, 3), (True, 0), (1.0, 2), ()]


class RoseTest(unittest.TestCase):
    def test_by_hand(self):
        rose = Rose(2, 6, [(4, 0), (0, 2), (2, 0), (1, 1), (0, 0), (4, 0)])
        self.assertEqual((rose.size, rose.scale, rose.rows), (2, 3, ((0, 1), (2, 0))))
        self.assertEqual(rose, Rose(size=2, scale=3, rows=((2, 0), (0, 1))))
        empty = Rose(2, 77, [(0, 0)])
        self.assertEqual((empty.scale, empty.rows), (1, ()))
        self.assertEqual(empty, Rose(2, 5, ()))
        self.assertNotEqual(empty, Rose(1, 5, ()))
        self.assertEqual(Rose(1, 4, [(6,), (-2,), (3,)]).rows, ((-1,), (3,)))
        self.assertEqual(Rose(1, 4, [(6,), (-2,), (3,)]).scale, 2)
        self.assertEqual(Rose(2, 1, [(2, 0), (0, 2), (1, 1)]).rows, ((0, 2), (2, 0)))
        flat = Rose(3, 1, [(2, 0, 0), (0, 2, 0), (1, 1, 0), (2, 2, 0), (1, 0, 0)])
        self.assertEqual(flat.rows, ((0, 2, 0), (2, 0, 0), (2, 2, 0)))
        self.assertEqual(Rose(1, LONG * 2, [(LONG * 4,)]), Rose(1, 1, [(2,)]))

    def test_form(self):
        r = seeded(51)
        for _ in range(400):
            size = r.randint(1, 3)
            rows = rows_of(r, size, r.randint(0, 8), r.choice([1, 2, 9, NINE, LONG]))
            scale = r.choice([1, 2, 6, NINE, LONG])
            rose = Rose(size, scale, rows)
            self.assertIs(type(rose.rows), tuple)
            self.assertTrue(without_divisor([rose.scale, *[part for row in rose.rows for part in row]]))
            kept = corners(rows)
            self.assertEqual([times(scale, row) for row in rose.rows], [times(rose.scale, row) for row in kept])
            self.assertEqual(rose, Rose(size, scale * 3, [times(3, row) for row in rows[::-1]]))
            self.assertEqual(rose, Rose(rose.size, rose.scale, rose.rows))

    def test_many_rows(self):
        r = seeded(52)
        rows = rows_of(r, 3, 700, 5)
        rose = Rose(3, 1, rows)
        self.assertEqual(Rose(3, 1, rose.rows), rose)
        for _ in range(50):
            step = any_step(r, 3)
            self.assertEqual(value(going(rose, step)), max([0] + [inner(row, step) for row in rows]))
        self.assertTrue(all(mixture(rose.rows, row) is not None for row in rows[:40]))

    def test_equal_exactly_if_all_steps_are_gone_alike(self):
        r = seeded(53)
        alike = 0
        for _ in range(400):
            size = r.randint(1, 3)
            one, other = any_rose(r, size, 1), any_rose(r, size, 1)
            if r.random() < 0.3:
                other = Rose(size, one.scale, [*one.rows, *[times(1, row) for row in one.rows[:1]]])
            alike += one == other
            if one == other:
                steps = [any_step(r, size) for _ in range(10)]
                self.assertTrue(all(going(one, step) == going(other, step) for step in steps))
            else:
                # Of unlike roses one has a row that the other one does not hold: there a step tells them apart.
                from pacerose.ways import slower_step
                step = slower_step(one, other) or slower_step(other, one)
                self.assertNotEqual(going(one, step), going(other, step))
        self.assertGreater(alike, 40)

    def test_equal_to_no_other_kind(self):
        for thing in ODD:
            if type(thing) is not Rose:
                self.assertIs(Rose(2, 1, []) == thing, False)
                self.assertIs(Rose(2, 1, []) != thing, True)

    def test_arguments_are_not_changed(self):
        rows = [(2, 0), (1, 0), (0, 0)]
        Rose(2, 2, rows)
        self.assertEqual(rows, [(2, 0), (1, 0), (0, 0)])

    def test_wrong(self):
        check_refusals(self, Rose, {"size": 2, "scale": 3, "rows": [(1, 2)]},
                       [("size", BAD_SIZES, BadSize), ("scale", BAD_SCALES, BadScale), ("rows", BAD_ROWS, BadRows)])


class GoingTest(unittest.TestCase):
    def test_going(self):
        rose = Rose(2, 2, [(3, 0), (0, 1), (-1, -1)])
        self.assertEqual(going(rose, (1, 0)), (3, 2))
        self.assertEqual(going(rose, (0, 0)), (0, 1))
        self.assertEqual(going(Rose(2, 1, []), (5, 5)), (0, 1))
        self.assertEqual(going(Rose(2, 1, [(1, 0)]), (-5, 7)), (0, 1))
        r = seeded(54)
        for _ in range(500):
            size = r.randint(1, 3)
            rose, step = any_rose(r, size), any_step(r, size)
            self.assertEqual(value(check_pure(self, going, rose, step)), takes(rose, step))
            self.assertEqual(value(going(rose, times(LONG, step))), LONG * takes(rose, step))
        check_refusals(self, going, {"rose": rose, "step": step}, [("rose", BAD_ROSES, BadRose)])
        check_refusals(self, going, {"rose": Rose(2, 1, [(1, 0)]), "step": (1, 2)},
                       [("rose", BAD_ROSES, BadRose), ("step", BAD_STEPS, BadStep)])

    def test_leading(self):
        rose = Rose(2, 1, [(2, 0), (0, 2)])
        self.assertEqual(leading(rose, (1, 0)), [(2, 0)])
        self.assertEqual(leading(rose, (1, 1)), [(0, 2), (2, 0)])
        self.assertEqual(leading(rose, (-1, -1)), [(0, 0)])
        self.assertEqual(leading(rose, (0, 0)), [(0, 0), (0, 2), (2, 0)])
        self.assertEqual(leading(Rose(2, 1, []), (3, 4)), [(0, 0)])
        self.assertEqual(leading(Rose(2, 1, [(1, 0), (-1, 0)]), (0, 1)), [(-1, 0), (1, 0)])
        self.assertEqual(leading(Rose(2, 1, [(1, 0), (-1, 1), (-1, -1)]), (0, 0)), [(-1, -1), (-1, 1), (1, 0)])
        r = seeded(55)
        for _ in range(400):
            size = r.randint(1, 3)
            rose, step = any_rose(r, size, r.choice([1, 2, 9])), any_step(r, size, 2)
            told = check_pure(self, leading, rose, step)
            ends = list(rose.rows)
            if not ends or mixture([*[(*row, 1) for row in ends]], (0,) * size + (1,)) is None:
                ends.append((0,) * size)
            most = max(inner(end, step) for end in ends)
            self.assertEqual(told, sorted(end for end in ends if inner(end, step) == most))
        check_refusals(self, leading, {"rose": Rose(2, 1, [(1, 0)]), "step": (1, 2)},
                       [("rose", BAD_ROSES, BadRose), ("step", BAD_STEPS, BadStep)])

    def test_adds_up(self):
        rose = Rose(2, 1, [(1, 0), (0, 1)])
        self.assertIs(adds_up(rose, []), True)
        self.assertIs(adds_up(rose, [(1, 0), (2, 1)]), True)
        self.assertIs(adds_up(rose, [(1, 0), (0, 1)]), False)
        r = seeded(56)
        for _ in range(400):
            size = r.randint(1, 3)
            rose = any_rose(r, size, r.choice([1, 2, 9]))
            steps = [any_step(r, size, r.choice([1, 2, 9])) for _ in range(r.randint(0, 4))]
            whole = (0,) * size
            for step in steps:
                whole = plus(whole, step)
            told = check_pure(self, adds_up, rose, steps)
            self.assertIs(told, sum(takes(rose, step) for step in steps) == takes(rose, whole))
            shared = set(leading(rose, whole))
            for step in steps:
                shared &= set(leading(rose, step))
            self.assertIs(told, len(shared) > 0)
        wrong = [None, 5, "ab", {}, [(1,)], [[1, 2]], [(1, 2), (True, 0)], (1, 2), [(1, 2, 3)]]
        check_refusals(self, adds_up, {"rose": Rose(2, 1, [(1, 0)]), "steps": [(1, 2)]},
                       [("rose", BAD_ROSES, BadRose), ("steps", wrong, BadSteps)])


class KeptTest(unittest.TestCase):
    def test_is_kept(self):
        self.assertIs(is_kept(mirror_kind(2), Rose(2, 1, [(1, 0), (-1, 0)])), True)
        self.assertIs(is_kept(mirror_kind(2), Rose(2, 1, [(1, 0)])), False)
        self.assertIs(is_kept(mirror_kind(2), Rose(2, 1, [])), True)
        self.assertIs(is_kept(mirror_kind(1), Rose(2, 1, [])), False)
        self.assertIs(is_kept(plain_kind(3), Rose(3, 1, [(1, 2, 3)])), True)
        self.assertIs(is_kept(cube_kind(), Rose(3, 1, [(1, 0, 0), (-1, 0, 0), (0, 1, 0), (0, -1, 0), (0, 0, 1),
                                                       (0, 0, -1)])), True)

    def test_by_steps(self):
        r = seeded(57)
        seen = {True: 0, False: 0}
        for _ in range(300):
            size = r.randint(1, 3)
            kind = r.choice(kinds_of(size))
            rows = rows_of(r, size, r.randint(0, 2), r.choice([1, 2, NINE]))
            if r.random() < 0.6:
                rows = [led_by(tuple(zip(*table)), row) for row in rows for table in kind.tables]
            rose = Rose(size, r.randint(1, 5), rows)
            told = check_pure(self, is_kept, kind, rose)
            seen[told] += 1
            unlike = any(Rose(size, rose.scale, [led_by(tuple(zip(*table)), row) for row in rose.rows]) != rose
                         for table in kind.tables)
            self.assertIs(told, not unlike)
            if told:
                for _ in range(5):
                    step = any_step(r, size)
                    self.assertEqual(len({going(rose, led_by(table, step)) for table in kind.tables}), 1)
        self.assertGreater(min(seen.values()), 20)

    def test_wrong(self):
        check_refusals(self, is_kept, {"kind": plain_kind(2), "rose": Rose(2, 1, [])},
                       [("kind", BAD_KINDS, BadKind), ("rose", BAD_ROSES, BadRose)])


if __name__ == "__main__":
    unittest.main()
