"""[26] What is left of a rose if a part is taken away."""

import unittest

from pacerose.errors import BadRose, OtherSize
from pacerose.rests import is_rest_flaw, rest, rest_flaw
from pacerose.roses import Rose
from pacerose.sums import rose_greater, rose_sum, rose_times
from pacerose.ways import never_slower
from tests.helpers import (BAD_ROSES, NINE, ODD, any_rose, check_judge, check_odd, check_pure, check_refusals, fails,
                           is_int_row, plus, seeded, takes)
from tests.test_sums import some_rose


def oracle(whole, part, thing):
    def left(step):
        return takes(whole, step) - takes(part, step)
    if type(thing) is not tuple or not thing or type(thing[0]) is not str:
        return False
    if not all(is_int_row(step, whole.size) for step in thing[1:]):
        return False
    if thing[0] == "below":
        return len(thing) == 2 and left(thing[1]) < 0
    return (thing[0] == "bent" and len(thing) == 3
            and left(thing[1]) + left(thing[2]) < left(plus(thing[1], thing[2])))


class RestsTest(unittest.TestCase):
    def test_by_hand(self):
        whole = Rose(2, 1, [(2, 0), (0, 1), (2, 1)])
        self.assertEqual(rest(whole, Rose(2, 1, [(1, 0)])), Rose(2, 1, [(1, 0), (0, 1), (1, 1)]))
        self.assertIsNone(rest_flaw(whole, Rose(2, 1, [(1, 0)])))
        part = Rose(2, 1, [(1, 1)])
        self.assertIsNone(rest(whole, part))
        self.assertIs(is_rest_flaw(whole, part, ("bent", (2, -1), (1, -2))), True)
        self.assertIs(is_rest_flaw(whole, part, rest_flaw(whole, part)), True)
        self.assertIs(is_rest_flaw(whole, part, ("bent", (2, 1), (1, 2))), False)
        self.assertEqual(rest(whole, whole), Rose(2, 1, []))
        self.assertEqual(rest(whole, Rose(2, 1, [])), whole)
        self.assertIsNone(rest(Rose(2, 1, []), whole))
        self.assertEqual(rest_flaw(Rose(2, 1, []), Rose(2, 1, [(3, 0)]))[0], "below")
        self.assertEqual(rest(Rose(3, 1, []), Rose(3, 1, [])), Rose(3, 1, []))

    def problem(self, r):
        size = r.randint(1, 3)
        whole, part = some_rose(r, size), some_rose(r, size)
        chance = r.random()
        if chance < 0.4:
            whole = rose_sum(whole, part)
        elif chance < 0.6:
            whole = rose_greater(whole, part)
        elif chance < 0.7:
            whole = rose_sum(rose_greater(whole, part), rose_times(part, (1, 2)))
        elif chance < 0.75:
            part = rose_times(whole, r.choice([(0, 1), (1, 3), (2, 3), (1, 1), (4, 3)]))
        return whole, part

    def test_one_of_both(self):
        r = seeded(111)
        seen = {"none": 0, "below": 0, "bent": 0}
        for _ in range(500):
            whole, part = self.problem(r)
            left, flaw = check_pure(self, rest, whole, part), check_pure(self, rest_flaw, whole, part)
            self.assertNotEqual(left is None, flaw is None)
            if flaw is None:
                self.assertEqual(rose_sum(left, part), whole)
                self.assertEqual(rest(whole, left), part)
                seen["none"] += 1
            else:
                self.assertTrue(oracle(whole, part, flaw), (vars(whole), vars(part), flaw))
                self.assertIs(is_rest_flaw(whole, part, flaw), True)
                seen[flaw[0]] += 1
        self.assertGreater(min(seen.values()), 20)

    def test_judge(self):
        r = seeded(112)
        for _ in range(120):
            whole, part = self.problem(r)
            flaw = rest_flaw(whole, part)
            if flaw is not None:
                check_judge(self, lambda thing: is_rest_flaw(whole, part, thing), flaw,
                            lambda thing: oracle(whole, part, thing))
            else:
                for _ in range(5):
                    steps = [tuple(r.randint(-9, 9) for _ in range(whole.size)) for _ in range(2)]
                    self.assertIs(is_rest_flaw(whole, part, ("bent", *steps)), False)
                    self.assertIs(is_rest_flaw(whole, part, ("below", steps[0])), False)
        for whole, part in [(Rose(2, 1, [(1, 0)]), Rose(2, 1, [(0, 1)])), (Rose(2, 1, []), Rose(2, 1, []))]:
            check_odd(self, lambda thing: is_rest_flaw(whole, part, thing),
                      [thing for thing in ODD if oracle(whole, part, thing)])

    def test_what_is_added_cancels(self):
        r = seeded(113)
        for _ in range(150):
            size = r.randint(1, 3)
            one, other, third = [any_rose(r, size, r.choice([1, 2, NINE])) for _ in range(3)]
            if r.random() < 0.5:
                other = rose_greater(one, other)
            here, there = rose_sum(one, third), rose_sum(other, third)
            self.assertEqual(never_slower(here, there), never_slower(one, other))
            self.assertEqual(here == there, one == other)

    def test_wrong(self):
        good = {"whole": Rose(2, 1, [(1, 0)]), "part": Rose(2, 1, [])}
        wrong = [("whole", BAD_ROSES, BadRose), ("part", BAD_ROSES, BadRose)]
        for call, more in [(rest, {}), (rest_flaw, {}), (is_rest_flaw, {"thing": None})]:
            check_refusals(self, call, {**good, **more}, wrong)
            fails(self, OtherSize, call, Rose(2, 1, []), Rose(3, 1, []), *more.values())
            fails(self, BadRose, call, Rose(2, 1, []), None, *more.values())


if __name__ == "__main__":
    unittest.main()
