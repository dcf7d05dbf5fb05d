"""[40] Logs and [41] ways, shortcuts and keepers."""

import itertools
import unittest
from fractions import Fraction

from pacerose.errors import BadKind, BadLog, BadRose, BadSize, BadStep, BadSteps, BadWay
from pacerose.kinds import Kind, mirror_kind, plain_kind
from pacerose.leasts import least_deal
from pacerose.logs import (is_log, is_shortcut, is_way, keeps, log_from, log_images, rose_for, shortcut, shortest_way,
                           way_time)
from pacerose.roses import Rose, is_kept
from pacerose.sums import rose_kept, rose_sum, rose_times
from tests.helpers import (BAD_KINDS, BAD_ROSES, BAD_SIZES, LONG, NINE, ODD, QUARTER, any_rose, check_judge, check_odd,
                           check_pure, check_refusals, cube_kind, is_int, is_int_row, kinds_of, led_by, other_kinds, row_of,
                           seeded, takes, value, without_divisor)

LOG = {(1, 0): (2, 1), (0, 1): ((1, 2), (3, 1)), (1, 1): ((0, 1), None)}
BAD_TOLD = [None, 1, 2.0, (1, 2, 3), [1, 2], (-1, 1), (2, 4), (1, 0), (True, 1), (1, True), ((1, 1), (1, 2)), ((-1, 1), (1, 1)),
            ((1, 1), 2), ((1, 1),), ((1, 1), (2, 1), None), [(1, 1), (2, 1)], (None, (1, 1)), (None, None), ((2, 2), (3, 1)),
            ((1, 1), (4, 2)), ((1, 1), (True, 1)), ((1, 1), [2, 1]), "ab", (1, None), ((1, 1), False)]
BAD_STEPS_OF_LOGS = [(0, 0), (1,), (1, 0, 0), (True, 0), (1.0, 0), "ab", None, 1, ("1", "0")]
BAD_LOGS = ([None, 1, "log", [], (), [((1, 0), (1, 1))], {1: 2}, object(), Rose(2, 1, [])]
            + [{(1, 0): told} for told in BAD_TOLD] + [{step: (1, 1)} for step in BAD_STEPS_OF_LOGS]
            + [{(1, 0): (1, 1), (0, 1): None}, {(k, 1): (1, 1) for k in range(9)}])
# Two steps there take less than one that is as long, so nothing keeps this one.
UNKEPT = {(1, 0): (1, 1), (2, 0): ((3, 1), None), (0, 1): (1, 1)}
BAD_STEPS = [None, 5, [1, 0], (1,), (1, 0, 0), (True, 0), (1.0, 0), "ab", ()]


def any_ratio(r, most=6):
    told = Fraction(r.randint(0, most), r.choice([1, 1, 2, 3]))
    return told.numerator, told.denominator


def as_ratio(told):
    return told.numerator, told.denominator


def any_log(r, kind, most=3, many=None):
    """Often with a keeper, as a rose takes about what is told; often without."""
    size, log = kind.size, {}
    rose = rose_kept(kind, any_rose(r, size, r.choice([1, 2, 5]), r.randint(1, 4)))
    spread = r.choice([0, 1, 2])
    for _ in range(r.randint(0, 4) if many is None else many):
        step = row_of(r, size, most)
        if any(step):
            time = takes(rose, step) if r.random() < 0.75 else Fraction(*any_ratio(r))
            low = max(Fraction(0), time - Fraction(r.randint(0, spread), r.choice([1, 2])))
            high = time + Fraction(r.randint(0, spread), r.choice([1, 2]))
            log[step] = r.choice([as_ratio(time), (as_ratio(low), as_ratio(high)), (as_ratio(low), as_ratio(high)),
                                  (as_ratio(low), None), ((0, 1), (1, 1)), ((0, 1), as_ratio(high))])
    return log


def entries(log):
    """Triples of a step, its low and its high, as fractions."""
    found = []
    for step in sorted(log):
        low, high = log[step] if isinstance(log[step][0], tuple) else (log[step], log[step])
        found.append((step, Fraction(*low), None if high is None else Fraction(*high)))
    return found


def keeps_log(rose, log):
    return all(low <= takes(rose, step) and (high is None or takes(rose, step) <= high) for step, low, high in entries(log))


def is_keeper(kind, log, rose):
    return type(rose) is Rose and is_kept(kind, rose) and keeps_log(rose, log)


def images_of(kind, log):
    return sorted({(led_by(table, step), j) for j, (step, _, high) in enumerate(entries(log)) if high is not None
                   for table in kind.tables})


def oracle_ratio(thing):
    return is_int_row(thing, 2) and thing[1] >= 1 and without_divisor(thing)


def oracle_log(size, thing):
    if type(thing) is not dict or len(thing) > 8 or not all(is_int_row(step, size) and any(step) for step in thing):
        return False
    for told in thing.values():
        if oracle_ratio(told) and told[0] >= 0:
            continue
        if type(told) is not tuple or len(told) != 2 or not oracle_ratio(told[0]) or told[0][0] < 0:
            return False
        if told[1] is not None and (not oracle_ratio(told[1]) or Fraction(*told[1]) < Fraction(*told[0])):
            return False
    return True


def oracle_way(kind, log, step, thing):
    pairs = images_of(kind, log)
    if type(thing) is not tuple or len(thing) != 2 or not is_int(thing[0]) or not is_int_row(thing[1], len(pairs)):
        return False
    scale, counts = thing
    if scale < 1 or min(counts, default=0) < 0 or not without_divisor((scale, *counts)):
        return False
    return all(sum(n * image[k] for n, (image, _) in zip(counts, pairs)) == scale * step[k] for k in range(kind.size))


def time_of_way(kind, log, way):
    told = entries(log)
    return Fraction(sum((n * told[j][2] for n, (_, j) in zip(way[1], images_of(kind, log))), Fraction(0))) / way[0]


def oracle_shortcut(kind, log, thing):
    told = entries(log)
    if type(thing) is not tuple or len(thing) != 2 or not is_int(thing[0]) or not 0 <= thing[0] < len(told):
        return False
    step, low, _ = told[thing[0]]
    return oracle_way(kind, log, step, thing[1]) and time_of_way(kind, log, thing[1]) < low


def plain_least_time(kind, log, step):
    """By trying all combinations of few images; None without a way."""
    best = Fraction(0) if not any(step) else None
    told = entries(log)
    costs = {}
    for image, j in images_of(kind, log):
        costs[image] = min(costs.get(image, told[j][2]), told[j][2])
    for many in range(1, kind.size + 1):
        for chosen in itertools.combinations(sorted(costs), many):
            counts = solution(chosen, step)
            if counts is not None and min(counts) >= 0:
                time = sum(count * costs[image] for count, image in zip(counts, chosen))
                best = time if best is None else min(best, time)
    return best


def solution(columns, goal):
    """The one solution, by elimination; None if there is none or more than one."""
    lines = [[Fraction(column[k]) for column in columns] + [Fraction(goal[k])] for k in range(len(goal))]
    at = 0
    for c in range(len(columns)):
        found = [k for k in range(at, len(lines)) if lines[k][c] != 0]
        if not found:
            return None
        lines[at], lines[found[0]] = lines[found[0]], lines[at]
        lines[at] = [part / lines[at][c] for part in lines[at]]
        for k in range(len(lines)):
            if k != at and lines[k][c] != 0:
                lines[k] = [a - lines[k][c] * b for a, b in zip(lines[k], lines[at])]
        at += 1
    return None if any(line[-1] != 0 for line in lines[at:]) else [line[-1] for line in lines[:at]]


class LogsTest(unittest.TestCase):
    def test_is_log(self):
        for right in [{}, LOG, {(2, 0): (0, 1)}, {(1, 0): ((0, 1), (0, 1))}, {(NINE, -NINE): ((NINE, 1), None)},
                      {(k, 1): (1, 1) for k in range(8)}, {(1, 0): (LONG, 3)}, {(1, 0): ((1, 3), (1, 2))}]:
            self.assertTrue(oracle_log(2, right))
            self.assertIs(is_log(2, right), True)
            for wrong in other_kinds(right):
                self.assertIs(is_log(2, wrong), oracle_log(2, wrong), wrong)
            if right:
                self.assertIs(is_log(1, right), False)
                self.assertIs(is_log(3, right), False)
        for wrong in BAD_LOGS:
            self.assertIs(is_log(2, wrong), False, wrong)
        self.assertIs(is_log(1, {(1,): (1, 1), (-1,): (2, 1), (3,): ((0, 1), None)}), True)
        self.assertIs(is_log(1, {(0,): (1, 1)}), False)
        check_odd(self, lambda thing: is_log(2, thing), [{}])
        check_refusals(self, is_log, {"size": 2, "thing": LOG}, [("size", BAD_SIZES, BadSize)])

    def test_log_from(self):
        rose = Rose(2, 2, [(1, 0), (0, 3)])
        self.assertEqual(log_from(rose, []), {})
        self.assertEqual(list(log_from(rose, [(1, 1), (-1, -1), (4, 0)]).items()),
                         [((-1, -1), (0, 1)), ((1, 1), (3, 2)), ((4, 0), (2, 1))])
        r = seeded(401)
        for _ in range(80):
            size = r.randint(1, 3)
            rose = any_rose(r, size)
            steps = [step for step in {row_of(r, size, 9) for _ in range(r.choice([0, 1, 5, 8]))} if any(step)]
            told = check_pure(self, log_from, rose, steps)
            self.assertEqual(list(told), sorted(steps))
            for step in steps:
                self.assertEqual(value(told[step]), takes(rose, step))
            self.assertIs(keeps(rose, told), True)
            self.assertIs(is_log(size, told), True)
        wrong = [None, 5, "ab", {}, {(1, 0): 1}, [(0, 0)], [(1, 0), (0, 0)], [(1, 0), (1, 0)], [(1,)], [(1, 0, 0)], [[1, 0]],
                 [(True, 0)], [(1, 0), None], [(k, 1) for k in range(9)]]
        check_refusals(self, log_from, {"rose": rose_of_two(), "steps": [(1, 0), (2, 0)]},
                       [("rose", BAD_ROSES, BadRose), ("steps", wrong, BadSteps)])

    def test_keeps(self):
        r = seeded(402)
        seen = {True: 0, False: 0}
        for _ in range(300):
            kind = r.choice(kinds_of(r.randint(1, 3)))
            log = any_log(r, kind)
            rose = rose_for(kind, log) if r.random() < 0.5 else None
            rose = any_rose(r, kind.size, 2) if rose is None else rose
            told = check_pure(self, keeps, rose, log)
            self.assertIs(told, keeps_log(rose, log))
            seen[told] += 1
        self.assertGreater(min(seen.values()), 60)
        self.assertIs(keeps(rose_of_two(), {}), True)
        self.assertIs(keeps(rose_of_two(), {(1, 0): ((0, 1), (0, 1))}), False)
        check_refusals(self, keeps, {"rose": rose_of_two(), "log": LOG}, [("rose", BAD_ROSES, BadRose), ("log", BAD_LOGS, BadLog)])

    def test_middles_of_keepers(self):
        r = seeded(403)
        seen = 0
        for _ in range(150):
            kind = r.choice(kinds_of(r.randint(1, 2)))
            log = any_log(r, kind)
            one, other = rose_for(kind, log), rose_kept(kind, any_rose(r, kind.size, 2))
            if one is not None and keeps(other, log):
                seen += 1
                a, b = r.randint(0, 4), r.randint(1, 4)
                both = rose_sum(rose_times(one, as_ratio(Fraction(a, a + b))), rose_times(other, as_ratio(Fraction(b, a + b))))
                self.assertTrue(is_keeper(kind, log, both))
        self.assertGreater(seen, 15)


def rose_of_two():
    return Rose(2, 1, [(1, 0), (0, 1)])


class WaysTest(unittest.TestCase):
    def test_by_hand(self):
        kind, log = mirror_kind(1), {(1,): (2, 1), (3,): (7, 1)}
        self.assertEqual(log_images(kind, log), [((-3,), 1), ((-1,), 0), ((1,), 0), ((3,), 1)])
        self.assertEqual(shortcut(kind, log), (1, (1, (0, 0, 3, 0))))
        self.assertIsNone(rose_for(kind, log))
        self.assertEqual(way_time(kind, log, (1, (0, 0, 3, 0))), (6, 1))
        self.assertEqual(shortest_way(kind, log, (4,)), (1, (0, 0, 4, 0)))
        self.assertEqual(shortest_way(kind, log, (0,)), (1, (0, 0, 0, 0)))
        self.assertIs(is_way(kind, log, (4,), (1, (0, 0, 1, 1))), True)
        self.assertIs(is_way(kind, log, (4,), (2, (0, 0, 2, 2))), False)
        self.assertIs(is_way(kind, log, (4,), (3, (0, 0, 0, 4))), True)
        plain = plain_kind(2)
        self.assertEqual(log_images(plain, LOG), [((0, 1), 0), ((1, 0), 1)])
        self.assertEqual(shortest_way(plain, LOG, (3, 2)), (1, (2, 3)))
        self.assertEqual(way_time(plain, LOG, (2, (1, 1))), (5, 2))
        self.assertIsNone(shortest_way(plain, LOG, (-1, 0)))
        self.assertIsNone(shortcut(plain, LOG))
        self.assertEqual(log_images(plain, {}), [])
        self.assertEqual(rose_for(plain, {}), Rose(2, 1, []))
        self.assertEqual(shortest_way(plain, {}, (0, 0)), (1, ()))
        self.assertIs(is_way(plain, {}, (0, 0), (1, ())), True)
        self.assertIs(is_way(plain, {}, (0, 0), (2, ())), False)
        self.assertIsNone(shortest_way(plain, {}, (1, 0)))
        self.assertEqual(way_time(plain, {}, (1, ())), (0, 1))
        # A way of time 0, and no way there at all.
        still = {(1, 0): (0, 1), (2, 0): ((1, 9), None)}
        self.assertEqual(shortcut(plain, still), (1, (1, (2,))))
        lone = {(1, 0): (0, 1), (0, 1): ((5, 1), None)}
        self.assertTrue(is_keeper(plain, lone, rose_for(plain, lone)))
        self.assertEqual(shortcut(plain, UNKEPT), (2, (1, (0, 2))))

    def test_images(self):
        r = seeded(404)
        for _ in range(200):
            kind = r.choice(kinds_of(r.randint(1, 3)))
            log = any_log(r, kind, many=r.randint(0, 8))
            self.assertEqual(check_pure(self, log_images, kind, log), images_of(kind, log))
        kind = Kind(2, [QUARTER])
        self.assertEqual(log_images(kind, {(1, 0): (1, 1), (2, 0): (1, 1)}),
                         sorted([(image, j) for j in (0, 1) for image in [(j + 1, 0), (-j - 1, 0), (0, j + 1), (0, -j - 1)]]))

    def check_one_of_both(self, kind, log):
        told, rose = check_pure(self, shortcut, kind, log), check_pure(self, rose_for, kind, log)
        self.assertNotEqual(told is None, rose is None)
        if rose is None:
            self.assertTrue(oracle_shortcut(kind, log, told))
            self.assertIs(is_shortcut(kind, log, told), True)
            self.assertLessEqual(sum(1 for count in told[1][1] if count), kind.size)
        else:
            self.assertTrue(is_keeper(kind, log, rose))
        return rose is None

    def test_one_of_both(self):
        r = seeded(405)
        seen = {True: 0, False: 0}
        for _ in range(800):
            kind = r.choice(kinds_of(r.randint(1, 3)))
            seen[self.check_one_of_both(kind, any_log(r, kind))] += 1
        self.assertGreater(min(seen.values()), 80)

    def test_full_logs_and_great_numbers(self):
        r = seeded(406)
        for kind in [*kinds_of(1), *kinds_of(2), *kinds_of(3), cube_kind()]:
            log = any_log(r, kind, 4, 30)
            log = {step: log[step] for step in list(log)[:8]}
            self.check_one_of_both(kind, log)
            great = {tuple(part * 9999999 for part in step): log[step] for step in log}
            self.check_one_of_both(kind, {**dict(list(great.items())[:4]), **dict(list(log.items())[:4])})
            if kind.size > 1:
                told = {row_of(r, kind.size, NINE): (r.randint(1, NINE), 1) for _ in range(6)}
                self.check_one_of_both(kind, told)

    def test_order_of_keys(self):
        r = seeded(407)
        for _ in range(100):
            kind = r.choice(kinds_of(r.randint(1, 3)))
            log = any_log(r, kind, many=4)
            turned = dict(reversed(list(log.items())))
            for call in (log_images, shortcut, rose_for):
                self.assertEqual(call(kind, log), call(kind, turned))

    def test_shortest_ways(self):
        r = seeded(408)
        seen = {True: 0, False: 0}
        for _ in range(400):
            kind = r.choice(kinds_of(r.randint(1, 3)))
            log = any_log(r, kind)
            step = row_of(r, kind.size, 3)
            way = check_pure(self, shortest_way, kind, log, step)
            least = least_deal([image for image, _ in images_of(kind, log)], [1] * len(images_of(kind, log)), step)
            self.assertEqual(way is None, least[0] == "none")
            seen[way is None] += 1
            if way is None:
                continue
            self.assertTrue(oracle_way(kind, log, step, way))
            self.assertIs(is_way(kind, log, step, way), True)
            self.assertEqual(value(way_time(kind, log, way)), time_of_way(kind, log, way))
            if len(images_of(kind, log)) < 13:
                self.assertEqual(time_of_way(kind, log, way), plain_least_time(kind, log, step))
        self.assertGreater(min(seen.values()), 100)

    def test_judges(self):
        r = seeded(409)
        for _ in range(60):
            kind = r.choice(kinds_of(r.randint(1, 3))[:4])
            log = any_log(r, kind, many=r.randint(1, 3))
            step = row_of(r, kind.size, 2)
            way = shortest_way(kind, log, step)
            if way is not None:
                check_judge(self, lambda thing: is_way(kind, log, step, thing), way,
                            lambda thing: oracle_way(kind, log, step, thing))
            told = shortcut(kind, log)
            if told is not None:
                check_judge(self, lambda thing: is_shortcut(kind, log, thing), told,
                            lambda thing: oracle_shortcut(kind, log, thing))
        check_odd(self, lambda thing: is_way(plain_kind(2), LOG, (5, 5), thing))
        check_odd(self, lambda thing: is_shortcut(plain_kind(2), UNKEPT, thing))
        check_odd(self, lambda thing: is_shortcut(plain_kind(2), {}, thing))

    def test_wrong(self):
        wrong = [("kind", BAD_KINDS, BadKind), ("log", BAD_LOGS, BadLog)]
        good = {"kind": plain_kind(2), "log": LOG}
        for call in (log_images, shortcut, rose_for):
            check_refusals(self, call, good, wrong)
        check_refusals(self, is_shortcut, {**good, "thing": None}, wrong)
        steps = ("step", BAD_STEPS, BadStep)
        check_refusals(self, shortest_way, {**good, "step": (1, 0)}, [*wrong, steps])
        check_refusals(self, is_way, {**good, "step": (1, 0), "thing": 0}, [*wrong, steps])
        ways = [None, 5, "ab", (), (1,), (1, ()), (0, (1, 1)), (-1, (1, 1)), (1, (1, -1)), (1, (1,)), (1, (1, 1, 1)),
                (2, (2, 2)), (1, [1, 1]), [1, (1, 1)], (True, (1, 1)), (1, (True, 1)), (1.0, (1, 1)), (1, (1, 1), 1)]
        check_refusals(self, way_time, {**good, "way": (1, (0, 1))}, [*wrong, ("way", ways, BadWay)])


if __name__ == "__main__":
    unittest.main()
