"""[44] Loosened and stretched logs, [45] clashes."""

import itertools
import unittest
from fractions import Fraction

from pacerose.errors import BadKind, BadLog, BadRatio, BadSize
from pacerose.kinds import Kind, mirror_kind, plain_kind
from pacerose.logs import is_log, is_way, rose_for, way_time
from pacerose.loosened import (clashes, least_slack, least_stretch, loosened, slack_way, stretch_way, stretched, taken_back)
from tests.helpers import (BAD_KINDS, BAD_RATIOS, BAD_SIZES, NINE, QUARTER, check_pure, check_refusals, cube_kind, is_int,
                           kinds_of, row_of, seeded, value)
from tests.test_logs import BAD_LOGS, LOG, any_log, any_ratio, as_ratio, entries

BY_HAND = {(1,): (2, 1), (3,): (7, 1)}


def has_keeper(kind, log):
    return rose_for(kind, log) is not None


def part(log, lot):
    steps = sorted(log)
    return {steps[j]: log[steps[j]] for j in lot}


def clashing_problem(r, most=3, many=None):
    """A kind and a log, mostly without a keeper."""
    kind = r.choice(kinds_of(r.randint(1, 3)))
    log = any_log(r, kind, most, many)
    for step in log:
        if r.random() < 0.4:
            low = any_ratio(r, 9)
            log[step] = r.choice([low, (low, None), (low, (low[0] + low[1], low[1]))])
    return kind, log


class LoosenedTest(unittest.TestCase):
    def test_by_hand(self):
        kind = mirror_kind(1)
        self.assertEqual(least_slack(kind, BY_HAND), (1, 4))
        self.assertEqual(slack_way(kind, BY_HAND), (1, (1, (0, 0, 3, 0))))
        self.assertEqual(least_stretch(kind, BY_HAND), (7, 6))
        self.assertEqual(stretch_way(kind, BY_HAND), (1, (1, (0, 0, 3, 0))))
        self.assertEqual(clashes(kind, BY_HAND), [(0, 1)])
        self.assertEqual(taken_back(kind, BY_HAND), (0,))
        self.assertEqual(loosened(1, BY_HAND, (1, 4)), {(1,): ((7, 4), (9, 4)), (3,): ((27, 4), (29, 4))})
        self.assertEqual(stretched(1, BY_HAND, (7, 6)), {(1,): ((2, 1), (7, 3)), (3,): ((7, 1), (49, 6))})
        self.assertEqual(loosened(2, LOG, (3, 1)), {(0, 1): ((0, 1), (6, 1)), (1, 0): ((0, 1), (5, 1)), (1, 1): ((0, 1), None)})
        self.assertEqual(stretched(2, LOG, (1, 1)), {(0, 1): ((1, 2), (3, 1)), (1, 0): ((2, 1), (2, 1)), (1, 1): ((0, 1), None)})
        self.assertEqual(loosened(2, {}, (0, 1)), {})
        plain = plain_kind(2)
        for log in ({}, LOG):
            self.assertEqual(least_slack(plain, log), (0, 1))
            self.assertIsNone(slack_way(plain, log))
            self.assertEqual(least_stretch(plain, log), (1, 1))
            self.assertIsNone(stretch_way(plain, log))
            self.assertEqual(clashes(plain, log), [])
            self.assertEqual(taken_back(plain, log), ())
        # A way of time 0: no stretch helps, but some slack does.
        still = {(1, 0): (0, 1), (2, 0): ((1, 1), None)}
        self.assertIsNone(least_stretch(plain, still))
        self.assertEqual(stretch_way(plain, still), (1, (1, (2,))))
        self.assertEqual(least_slack(plain, still), (1, 3))
        self.assertEqual(slack_way(plain, still), (1, (1, (2,))))
        # Two clashes with one entry in common.
        both = {(1, 0): (1, 1), (2, 0): ((3, 1), None), (3, 0): ((4, 1), None)}
        self.assertEqual(clashes(plain, both), [(0, 1), (0, 2)])
        self.assertEqual(taken_back(plain, both), (0,))

    def test_changed_logs(self):
        r = seeded(441)
        for _ in range(200):
            size = r.randint(1, 3)
            log = any_log(r, plain_kind(size), many=r.randint(0, 8))
            slack, factor = any_ratio(r, 4), as_ratio(1 + Fraction(*any_ratio(r, 4)))
            loose, wide = check_pure(self, loosened, size, log, slack), check_pure(self, stretched, size, log, factor)
            self.assertEqual([list(loose), list(wide)], [sorted(log)] * 2)
            self.assertTrue(is_log(size, loose) and is_log(size, wide))
            for step, low, high in entries(log):
                self.assertEqual(value(loose[step][0]), max(Fraction(0), low - Fraction(*slack)))
                self.assertEqual(value(wide[step][0]), low)
                if high is None:
                    self.assertEqual((loose[step][1], wide[step][1]), (None, None))
                else:
                    self.assertEqual(value(loose[step][1]), high + Fraction(*slack))
                    self.assertEqual(value(wide[step][1]), high * Fraction(*factor))

    def check_slack(self, kind, log):
        slack, told = check_pure(self, least_slack, kind, log), check_pure(self, slack_way, kind, log)
        self.assertGreaterEqual(value(slack), 0)
        self.assertTrue(has_keeper(kind, loosened(kind.size, log, slack)))
        self.assertEqual(told is None, slack == (0, 1))
        if told is None:
            self.assertTrue(has_keeper(kind, log))
            return
        less = as_ratio(value(slack) * Fraction(999999, 1000000))
        self.assertFalse(has_keeper(kind, loosened(kind.size, log, less)))
        j, way = told
        step, low, _ = entries(log)[j]
        self.assertTrue(is_int(j) and is_way(kind, log, step, way))
        self.assertEqual((low - value(way_time(kind, log, way))) / (1 + Fraction(sum(way[1]), way[0])), value(slack))

    def check_stretch(self, kind, log):
        factor, told = check_pure(self, least_stretch, kind, log), check_pure(self, stretch_way, kind, log)
        self.assertEqual(told is None, factor == (1, 1))
        if factor is not None:
            self.assertGreaterEqual(value(factor), 1)
            self.assertTrue(has_keeper(kind, stretched(kind.size, log, factor)))
        if told is None:
            self.assertTrue(has_keeper(kind, log))
            return "right"
        j, way = told
        step, low, _ = entries(log)[j]
        self.assertTrue(is_way(kind, log, step, way))
        time = value(way_time(kind, log, way))
        if factor is None:
            self.assertEqual(time, 0)
            self.assertGreater(low, 0)
            self.assertFalse(has_keeper(kind, stretched(kind.size, log, (10 ** 9, 1))))
            return "none"
        self.assertEqual(low / time, value(factor))
        less = as_ratio(1 + (value(factor) - 1) * Fraction(999999, 1000000))
        self.assertFalse(has_keeper(kind, stretched(kind.size, log, less)))
        return "some"

    def test_least(self):
        r = seeded(442)
        seen = {"right": 0, "none": 0, "some": 0}
        for _ in range(500):
            kind, log = clashing_problem(r)
            self.check_slack(kind, log)
            seen[self.check_stretch(kind, log)] += 1
        self.assertGreater(min(seen.values()), 8)

    def test_great_numbers(self):
        r = seeded(443)
        for _ in range(30):
            kind = r.choice(kinds_of(r.randint(1, 3)))
            log = {row_of(r, kind.size, NINE): (r.randint(1, NINE), 1) for _ in range(r.randint(1, 5))}
            self.check_slack(kind, log)
            self.check_stretch(kind, log)

    def check_clashes(self, kind, log):
        told, back = check_pure(self, clashes, kind, log), check_pure(self, taken_back, kind, log)
        many = len(log)
        lots = [lot for length in range(many + 1) for lot in itertools.combinations(range(many), length)]
        right = {lot: has_keeper(kind, part(log, lot)) for lot in lots}
        found = [lot for lot in lots if not right[lot] and all(right[lot[:k] + lot[k + 1:]] for k in range(len(lot)))]
        self.assertEqual(told, sorted(found))
        self.assertTrue(all(len(lot) <= kind.size + 1 for lot in told))
        first = next(lot for lot in lots if right[tuple(j for j in range(many) if j not in lot)])
        self.assertEqual(back, first)
        self.assertEqual(back, next(lot for lot in lots if all(set(lot) & set(clash) for clash in told)))
        return len(told)

    def test_clashes(self):
        r = seeded(444)
        seen = [self.check_clashes(*clashing_problem(r, 2, r.randint(0, 7))) for _ in range(150)]
        self.assertGreater(sum(1 for told in seen if told > 1), 25)
        self.assertGreater(sum(1 for told in seen if told == 0), 25)

    def test_full_logs(self):
        r = seeded(445)
        for kind in [plain_kind(1), mirror_kind(2), Kind(2, [QUARTER]), plain_kind(3), cube_kind()]:
            log = any_log(r, kind, 2, 40)
            log = {step: (any_ratio(r, 9), None) if r.random() < 0.4 else log[step] for step in list(log)[:8]}
            self.check_slack(kind, log)
            self.check_stretch(kind, log)
            if len(kind) < 5:
                self.check_clashes(kind, log)

    def test_wrong(self):
        wrong = [("kind", BAD_KINDS, BadKind), ("log", BAD_LOGS, BadLog)]
        for call in (least_slack, slack_way, least_stretch, stretch_way, clashes, taken_back):
            check_refusals(self, call, {"kind": plain_kind(2), "log": LOG}, wrong)
        sizes = [("size", BAD_SIZES, BadSize), ("log", BAD_LOGS, BadLog)]
        slacks, factors = [(-1, 2), *BAD_RATIOS], [(-3, 2), (0, 1), (1, 2), (999, 1000), *BAD_RATIOS]
        check_refusals(self, loosened, {"size": 2, "log": LOG, "slack": (0, 1)}, [*sizes, ("slack", slacks, BadRatio)])
        check_refusals(self, stretched, {"size": 2, "log": LOG, "factor": (3, 2)}, [*sizes, ("factor", factors, BadRatio)])


if __name__ == "__main__":
    unittest.main()
