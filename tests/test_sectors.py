"""[24] Rays, sectors and probes of roses in the plane."""

import math
import unittest

from pacerose.errors import BadRose, BadStep, NotFlat
from pacerose.rows import plain
from pacerose.roses import Rose, going, leading
from pacerose.sectors import probes, rays, sector_of, sectors
from pacerose.sums import rose_sum
from tests.helpers import BAD_ROSES, any_rose, any_step, check_pure, check_refusals, fails, plus, seeded

BAD_STEPS = [None, 5, "ab", [1, 2], (1,), (1, 2, 3), (True, 0), (1.0, 2), (), (0, 0)]


def angle(step):
    return math.atan2(step[1], step[0]) % (2 * math.pi)


class SectorsTest(unittest.TestCase):
    def test_by_hand(self):
        self.assertEqual(rays(Rose(2, 1, [])), [])
        self.assertEqual(sectors(Rose(2, 1, [])), [])
        self.assertIsNone(sector_of(Rose(2, 1, []), (1, 1)))
        self.assertEqual(probes(Rose(2, 1, [])), [(1, 0), (0, 1), (-1, 0), (0, -1)])
        one = Rose(2, 5, [(3, 0)])
        self.assertEqual(rays(one), [(0, 1), (0, -1)])
        self.assertEqual(sectors(one), [((0, 1), (0, 0)), ((0, -1), (3, 0))])
        self.assertEqual([sector_of(one, step) for step in [(0, 1), (-1, 5), (0, -1), (1, -7), (1, 0), (9, 1)]],
                         [0, 0, 1, 1, 1, 1])
        self.assertEqual(probes(one), [(1, 0), (0, 1), (-1, 0), (0, -1)])
        line = Rose(2, 1, [(0, 1), (0, -1)])
        self.assertEqual(sectors(line), [((1, 0), (0, 1)), ((-1, 0), (0, -1))])
        self.assertEqual(sector_of(line, (1, 0)), 0)
        self.assertEqual(sector_of(line, (1, -1)), 1)
        three = Rose(2, 1, [(1, 0), (0, 1)])
        self.assertEqual(sectors(three), [((1, 1), (0, 1)), ((-1, 0), (0, 0)), ((0, -1), (1, 0))])
        self.assertEqual(probes(three), [(1, 0), (1, 1), (0, 1), (-1, 0), (-1, -1), (0, -1)])
        self.assertEqual([sector_of(three, step) for step in [(1, 0), (2, 2), (0, 1), (-3, 0), (-1, -1), (0, -5)]],
                         [2, 0, 0, 1, 1, 2])

    def test_many(self):
        r = seeded(91)
        for _ in range(250):
            rose = any_rose(r, 2, r.choice([1, 2, 5, 40]), r.randint(0, 12))
            told, pairs, tries = [check_pure(self, call, rose) for call in (rays, sectors, probes)]
            self.assertEqual(told, [ray for ray, _ in pairs])
            for steps in (told, tries):
                self.assertEqual(steps, sorted(set(steps), key=angle))
                self.assertTrue(all(plain(step) == (1, step) for step in steps))
            corners = [corner for _, corner in pairs]
            self.assertEqual(len(corners), len(set(corners)))
            self.assertEqual(sorted(corners), leading(rose, (0, 0)) if rose.rows else [])
            for k, (ray, corner) in enumerate(pairs):
                after = told[(k + 1) % len(told)]
                self.assertEqual(len(leading(rose, ray)), 2)
                self.assertIn(corner, leading(rose, ray))
                self.assertIn(corner, leading(rose, after))
                if len(told) > 2:
                    middle = plus(ray, after)
                    self.assertEqual(leading(rose, middle), [corner])
                    self.assertIn(plain(middle)[1], tries)
                    self.assertEqual(sector_of(rose, middle), k)
                else:
                    self.assertEqual(leading(rose, (-ray[1], ray[0])), [corner])
                    self.assertIn((-ray[1], ray[0]), tries)
                self.assertEqual(sector_of(rose, ray), k)
                self.assertIn(ray, tries)
            self.assertEqual(len(tries), 2 * len(told) if told else 4)

    def test_sector_of(self):
        r = seeded(92)
        for _ in range(500):
            rose, step = any_rose(r, 2, 4), any_step(r, 2, 4)
            if step == (0, 0):
                continue
            k = check_pure(self, sector_of, rose, step)
            if not rose.rows:
                self.assertIsNone(k)
                continue
            pairs = sectors(rose)
            self.assertIn(pairs[k][1], leading(rose, step))
            # A step along a ray belongs to the sector that begins there.
            if len(leading(rose, step)) == 2:
                self.assertEqual(pairs[k][0], plain(step)[1])

    def test_probes_tell_the_rose(self):
        r = seeded(93)
        alike = 0
        for _ in range(3000):
            one, other = any_rose(r, 2, 1, r.randint(0, 3)), any_rose(r, 2, 1, r.randint(0, 3))
            same = all(going(one, step) == going(other, step) for step in probes(one))
            self.assertEqual(same, one == other)
            alike += same
        self.assertGreater(alike, 100)

    def test_rays_of_a_sum(self):
        r = seeded(94)
        for _ in range(150):
            one, other = any_rose(r, 2, 5), any_rose(r, 2, 5)
            self.assertEqual(set(rays(rose_sum(one, other))), set(rays(one)) | set(rays(other)))

    def test_wrong(self):
        for call in (rays, sectors, probes):
            check_refusals(self, call, {"rose": Rose(2, 1, [(1, 0)])}, [("rose", BAD_ROSES, BadRose)])
            for size in (1, 3):
                fails(self, NotFlat, call, Rose(size, 1, []))
        check_refusals(self, sector_of, {"rose": Rose(2, 1, [(1, 0)]), "step": (1, 2)},
                       [("rose", BAD_ROSES, BadRose), ("step", BAD_STEPS, BadStep)])
        fails(self, NotFlat, sector_of, Rose(3, 1, []), (1, 2, 3))
        fails(self, BadStep, sector_of, Rose(3, 1, []), (0, 0, 0))
        fails(self, BadStep, sector_of, Rose(3, 1, []), (1, 2))
        fails(self, NotFlat, sector_of, Rose(1, 1, []), (1,))
        fails(self, BadStep, sector_of, Rose(1, 1, []), (0,))


if __name__ == "__main__":
    unittest.main()
