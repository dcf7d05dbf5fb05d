"""[11] Deals and dams, [12] the least deal."""

import signal
import unittest
from fractions import Fraction

from pacerose.deals import dam, dealt, is_dam, is_deal
from pacerose.errors import BadColumns, BadCosts, BadGoal, TooMany
from pacerose.leasts import is_told_least, least_deal
from tests.helpers import (LONG, NINE, ODD, any_most, check_judge, check_odd, check_pure, check_refusals, fails, inner,
                           is_int, is_int_row, number, row_of, rows_of, seeded, without_divisor)

BAD_COLUMNS = [None, 5, "ab", {}, {(1, 2): 1}, [(1, 2), (1,)], [[1, 2]], [(True, 0)], [(1.0, 0)], [()], [(1,) * 61], [1],
               [(1, 2), (1, 2, 3)], range(2), [(1, 2), None]]
BAD_GOALS = [None, 5, "ab", [1, 2], (1,), (1, 2, 3), (True, 0), (1.0, 2), (), ((1, 2),)]
MANY = ([(1, 0), (0, 1)] * 201)[:401]
CIRCLES = [
    ([(-6, -5, 0, 1), (-9, 9, 5, -4), (5, 5, 9, -7), (4, 5, 6, 5), (7, -4, -7, 1), (0, -8, -8, -6), (9, -5, -9, -7)],
     [9, 7, -1, -3, 2, 3, 1], (0, 0, 0, 3)),
    ([(3, -6), (3, -4), (4, 2), (-3, 2), (-7, 6), (1, 6), (8, 3)], [6, -1, -1, -3, 2, 2, 7], (0, 0)),
    ([(2, -9, 6, -6), (0, 7, -5, 2), (0, 0, 0, 9), (6, -5, -3, 5), (-1, 3, -5, 5), (-1, -8, 9, 6), (-1, -2, -8, 7),
      (-4, -8, -5, 1)], [-5, 4, 0, 5, -2, -1, 4, 0], (0, 0, 0, 5)),
]


def oracle_deal(columns, goal, thing):
    if type(thing) is not tuple or len(thing) != 2 or not is_int(thing[0]) or thing[0] < 1:
        return False
    scale, counts = thing
    if not is_int_row(counts, len(columns)) or any(count < 0 for count in counts):
        return False
    if not without_divisor([scale, *counts]):
        return False
    return all(sum(c * column[k] for c, column in zip(counts, columns)) == scale * goal[k] for k in range(len(goal)))


def oracle_dam(columns, goal, thing):
    if not is_int_row(thing, len(goal)):
        return False
    return all(inner(thing, column) <= 0 for column in columns) and inner(thing, goal) > 0


def oracle_least(columns, costs, goal, thing, solvable):
    if thing[0] == "none":
        return oracle_dam(columns, goal, thing[1])
    if thing[0] == "endless":
        counts = thing[1]
        if not is_int_row(counts, len(columns)) or min(counts) < 0 or not without_divisor(counts) or not solvable:
            return False
        if any(sum(c * column[k] for c, column in zip(counts, columns)) for k in range(len(goal))):
            return False
        return sum(c * cost for c, cost in zip(counts, costs)) < 0
    _, deal, (scale, row) = thing
    if not oracle_deal(columns, goal, deal) or scale < 1 or not without_divisor([scale, *row]):
        return False
    if any(inner(row, column) > scale * cost for column, cost in zip(columns, costs)):
        return False
    return Fraction(inner(row, goal), scale) == Fraction(sum(c * cost for c, cost in zip(deal[1], costs)), deal[0])


def problem(r):
    many, most = r.randint(1, 5), any_most(r)
    columns = rows_of(r, many, r.randint(0, 7), most)
    if len(columns) > 1 and r.random() < 0.2:
        columns.append(r.choice(columns))
    if r.random() < 0.1:
        columns.append((0,) * many)
    goal = row_of(r, many, most)
    if r.random() < 0.5:
        counts = [r.choice([0, 0, 1, 2, 5]) for _ in columns]
        goal = tuple(sum(c * column[k] for c, column in zip(counts, columns)) for k in range(many))
    return columns, goal


class DealsTest(unittest.TestCase):
    def test_one_of_both(self):
        r = seeded(11)
        told = {True: 0, False: 0}
        for _ in range(1500):
            columns, goal = problem(r)
            deal, dammed = dealt(columns, goal), dam(columns, goal)
            self.assertNotEqual(deal is None, dammed is None)
            told[deal is None] += 1
            if dammed is None:
                self.assertTrue(oracle_deal(columns, goal, deal))
                self.assertIs(is_deal(columns, goal, deal), True)
            else:
                self.assertTrue(oracle_dam(columns, goal, dammed))
                self.assertIs(is_dam(columns, goal, dammed), True)
        self.assertGreater(min(told.values()), 300)

    def test_by_hand(self):
        self.assertEqual(dealt([(2, 0), (0, 3)], (1, 1)), (6, (3, 2)))
        self.assertEqual(dealt([], (0, 0)), (1, ()))
        self.assertEqual(dealt([(0, 0)], (0, 0))[0], 1)
        self.assertIsNone(dealt([], (0, 1)))
        self.assertTrue(is_dam([], (0, 1), dam([], (0, 1))))
        self.assertTrue(is_deal([], (0,) * 60, (1, ())))
        self.assertIs(is_deal([], (0,), (2, ())), False)
        self.assertIs(is_deal([(1,), (-1,)], (0,), (1, (5, 5))), True)
        self.assertIs(is_deal([(1,), (-1,)], (0,), (5, (5, 5))), False)
        self.assertIs(is_dam([(0, -1)], (0, 1), (0, LONG)), True)
        self.assertIs(is_dam([(0, -1)], (0, 1), (0, 0)), False)

    def test_judges(self):
        r = seeded(12)
        for _ in range(150):
            columns, goal = problem(r)
            deal, dammed = dealt(columns, goal), dam(columns, goal)
            if dammed is None:
                check_judge(self, lambda thing: is_deal(columns, goal, thing), deal,
                            lambda thing: oracle_deal(columns, goal, thing))
                doubled = (2 * deal[0], tuple(2 * count for count in deal[1]))
                self.assertIs(is_deal(columns, goal, doubled), False)
            else:
                check_judge(self, lambda thing: is_dam(columns, goal, thing), dammed,
                            lambda thing: oracle_dam(columns, goal, thing))
                self.assertIs(is_dam(columns, goal, tuple(3 * part for part in dammed)), True)
        for columns, goal in [([(1, 2), (3, 4)], (5, 9)), ([(1, 1, 1)], (2, 2, 2)), ([], (1, 7))]:
            check_odd(self, lambda thing: is_deal(columns, goal, thing))
            check_odd(self, lambda thing: is_dam(columns, goal, thing),
                      [thing for thing in ODD if oracle_dam(columns, goal, thing)])

    def test_pure(self):
        r = seeded(13)
        for _ in range(40):
            columns, goal = problem(r)
            check_pure(self, dealt, columns, goal)
            check_pure(self, dam, columns, goal)

    def test_wrong(self):
        good = {"columns": [(1, 2), (3, 4)], "goal": (5, 6)}
        wrong = [("columns", BAD_COLUMNS, BadColumns), ("goal", BAD_GOALS, BadGoal)]
        for call in (dealt, dam):
            check_refusals(self, call, good, wrong)
        for call in (is_deal, is_dam):
            check_refusals(self, call, {**good, "thing": None}, wrong)
        for call, more in [(dealt, ()), (dam, ()), (is_deal, (None,)), (is_dam, (None,))]:
            call(MANY[:400], (1, 2), *more)
            call(tuple(MANY[:400]), (1, 2), *more)
            fails(self, (TooMany, {"most": 400}), call, MANY, (1, 2), *more)
            fails(self, BadGoal, call, MANY, (1, 2, 3), *more)
            fails(self, BadColumns, call, MANY + [(1,)], (1, 2, 3), *more)
            fails(self, BadGoal, call, [], (), *more)

    def test_long(self):
        columns = [(LONG, 1), (-1, LONG)]
        self.assertTrue(oracle_deal(columns, (1, LONG), dealt(columns, (1, LONG))))
        wide = [tuple(int(i == k) for k in range(60)) for i in range(60)]
        self.assertEqual(dealt(wide, (NINE,) * 60), (1, (NINE,) * 60))


class LeastTest(unittest.TestCase):
    def test_one_of_three(self):
        r = seeded(21)
        seen = {"none": 0, "endless": 0, "least": 0}
        for _ in range(1200):
            columns, goal = problem(r)
            most = any_most(r)
            costs = [r.randint(-most // 3, most) for _ in columns]
            told = least_deal(columns, costs, goal)
            solvable = dealt(columns, goal) is not None
            self.assertTrue(oracle_least(columns, costs, goal, told, solvable))
            self.assertIs(is_told_least(columns, costs, goal, told), True)
            self.assertEqual(told[0] == "none", not solvable)
            seen[told[0]] += 1
        self.assertGreater(min(seen.values()), 100)

    def test_by_hand(self):
        self.assertEqual(least_deal([(1,), (2,)], [3, 5], (4,)), ("least", (1, (0, 2)), (2, (5,))))
        self.assertEqual(least_deal([(1,), (-1,)], [1, -2], (4,)), ("endless", (1, 1)))
        self.assertEqual(least_deal([(1,), (-1,)], [1, -1], (4,))[1], (1, (4, 0)))
        self.assertEqual(least_deal([], [], (0, 0))[:2], ("least", (1, ())))
        self.assertEqual(least_deal([(-1,)], [5], (3,))[0], "none")
        self.assertEqual(least_deal([(0,)], [-5], (0,)), ("endless", (1,)))
        self.assertEqual(least_deal([(0,)], [-5], (1,))[0], "none")
        self.assertIs(is_told_least([(0,)], [-5], (1,), ("endless", (1,))), False)
        self.assertIs(is_told_least([(0,)], [-5], (0,), ("endless", (2,))), False)
        self.assertIs(is_told_least([], [], (0,), ("least", (1, ()), (1, (7,)))), True)
        self.assertIs(is_told_least([], [], (0,), ("least", (1, ()), (2, (4,)))), False)

    def test_no_going_round_in_circles(self):
        """Here searches that take any of several equal lines out of the basis come back to where they were."""
        def give_up(*_):
            self.fail("the search does not end")
        held = signal.signal(signal.SIGALRM, give_up)
        signal.alarm(20)
        try:
            for columns, costs, goal in CIRCLES:
                told = least_deal(columns, costs, goal)
                self.assertTrue(oracle_least(columns, costs, goal, told, dealt(columns, goal) is not None))
        finally:
            signal.alarm(0)
            signal.signal(signal.SIGALRM, held)

    def test_judge(self):
        r = seeded(22)
        for _ in range(150):
            columns, goal = problem(r)
            costs = [number(r, 9) + 4 for _ in columns]
            solvable = dealt(columns, goal) is not None
            check_judge(self, lambda thing: is_told_least(columns, costs, goal, thing),
                        least_deal(columns, costs, goal),
                        lambda thing: oracle_least(columns, costs, goal, thing, solvable))
        check_odd(self, lambda thing: is_told_least([(1, 2), (3, 4)], [1, 1], (5, 9), thing))

    def test_pure(self):
        r = seeded(23)
        for _ in range(40):
            columns, goal = problem(r)
            check_pure(self, least_deal, columns, [number(r, 5) for _ in columns], goal)

    def test_wrong(self):
        good = {"columns": [(1, 2), (3, 4)], "costs": [5, -6], "goal": (7, 8)}
        bad_costs = [None, 5, "ab", [1], [1, 2, 3], [True, 1], [1.0, 2], (1, None), {1: 1, 2: 2}, [(1,), (2,)]]
        wrong = [("columns", BAD_COLUMNS, BadColumns), ("goal", BAD_GOALS, BadGoal), ("costs", bad_costs, BadCosts)]
        check_refusals(self, least_deal, good, wrong)
        check_refusals(self, is_told_least, {**good, "thing": None}, wrong)
        least_deal(MANY[:400], [1] * 400, (1, 2))
        fails(self, (TooMany, {"most": 400}), least_deal, MANY, [1] * 401, (1, 2))
        fails(self, (TooMany, {"most": 400}), is_told_least, MANY, [1] * 401, (1, 2), None)
        fails(self, BadCosts, least_deal, MANY, [1] * 400, (1, 2))
        fails(self, BadGoal, least_deal, MANY, [1] * 401, (1,))


if __name__ == "__main__":
    unittest.main()
