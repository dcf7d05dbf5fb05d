"""[14] Kinds."""

import unittest

from pacerose.errors import BadKind, BadSize, BadStep, BadTables, TooMany
from pacerose.kinds import Kind, is_wider, mirror_kind, plain_kind, step_images
from pacerose.rows import determinant, led, table_product
from tests.helpers import (BAD_KINDS, BAD_SIZES, ODD, QUARTER, SHEAR, SIXTH, SWAP, UNIT2, any_step, check_pure,
                           check_refusals, cube_kind, fails, kinds_of, seeded)

BAD_TABLES = [None, 5, "ab", {}, [((1,),)], [((1, 0), (0, 2))], [((0, 0), (0, 0))], [[(1, 0), (0, 1)]], [UNIT2, None],
              [((True, 0), (0, 1))], [((1, 0), (0, 1.0))], [((1, 0, 0), (0, 1, 0), (0, 0, 1))], UNIT2, [SHEAR, ((2, 0), (0, 1))],
              [([1, 0], [0, 1])], [()]]
BAD_STEPS = [None, 5, "ab", [1, 2], (1,), (1, 2, 3), (True, 0), (1.0, 2), ()]


class KindsTest(unittest.TestCase):
    def test_by_hand(self):
        self.assertEqual(plain_kind(1).tables, (((1,),),))
        self.assertEqual(mirror_kind(1).tables, (((-1,),), ((1,),)))
        self.assertEqual(mirror_kind(2).tables, (((-1, 0), (0, -1)), UNIT2))
        self.assertEqual(mirror_kind(2).size, 2)
        self.assertEqual([len(kind) for kind in kinds_of(2)], [1, 2, 2, 4, 8, 6, 2, 12])
        self.assertEqual([len(kind) for kind in kinds_of(3)], [1, 2, 3, 4, 2, 8])
        self.assertEqual(len(cube_kind()), 48)
        self.assertEqual(Kind(2, [UNIT2, UNIT2]), plain_kind(2))

    def test_closed(self):
        for size in (1, 2, 3):
            for kind in kinds_of(size) + ([cube_kind()] if size == 3 else []):
                self.assertIs(type(kind.tables), tuple)
                self.assertEqual(list(kind.tables), sorted(set(kind.tables)))
                self.assertIn(tuple(tuple(int(i == k) for k in range(size)) for i in range(size)), kind.tables)
                for one in kind.tables[:12]:
                    self.assertEqual(abs(determinant(one)), 1)
                    self.assertEqual(sorted(table_product(one, other) for other in kind.tables), list(kind.tables))
                self.assertEqual(Kind(size, kind.tables), kind)
                self.assertEqual(Kind(size=size, tables=list(kind.tables)[::-1]), kind)

    def test_equal(self):
        self.assertEqual(Kind(2, [QUARTER]), Kind(2, (((0, 1), (-1, 0)),)))
        self.assertNotEqual(Kind(2, [QUARTER]), Kind(2, [SIXTH]))
        self.assertNotEqual(plain_kind(1), plain_kind(2))
        self.assertFalse(mirror_kind(3) == plain_kind(3))
        for thing in ODD:
            if type(thing) is not Kind:
                self.assertIs(plain_kind(2) == thing, False)
                self.assertIs(plain_kind(2) != thing, True)

    def test_arguments_are_not_changed(self):
        tables = [SWAP, QUARTER]
        Kind(2, tables)
        self.assertEqual(tables, [SWAP, QUARTER])

    def test_wrong(self):
        check_refusals(self, Kind, {"size": 2, "tables": [UNIT2]},
                       [("size", BAD_SIZES, BadSize), ("tables", BAD_TABLES, BadTables)])
        check_refusals(self, plain_kind, {"size": 2}, [("size", BAD_SIZES, BadSize)])
        check_refusals(self, mirror_kind, {"size": 2}, [("size", BAD_SIZES, BadSize)])

    def test_too_many(self):
        endless = [[SHEAR], [((2, 1), (1, 1))], [((0, 1), (1, 0)), ((1, 0), (1, 1))], [SIXTH, QUARTER],
                   [((1, 999999999), (0, 1))]]
        for tables in endless:
            fails(self, (TooMany, {"most": 48}), Kind, 2, tables)
        fails(self, (TooMany, {"most": 48}), Kind, 3, [((1, 0, 0), (0, 1, 5), (0, 0, 1))])
        fails(self, (TooMany, {"most": 48}), Kind, 3, [*cube_kind().tables, ((1, 0, 0), (0, 1, 5), (0, 0, 1))])
        fails(self, BadTables, Kind, 2, [SHEAR, ((2, 0), (0, 1))])

    def test_step_images(self):
        self.assertEqual(step_images(Kind(2, [QUARTER]), (1, 0)), [(-1, 0), (0, -1), (0, 1), (1, 0)])
        self.assertEqual(step_images(Kind(2, [SWAP]), (2, 2)), [(2, 2)])
        self.assertEqual(step_images(mirror_kind(3), (0, 0, 0)), [(0, 0, 0)])
        r = seeded(41)
        for size in (1, 2, 3):
            for kind in kinds_of(size):
                for _ in range(10):
                    step = any_step(r, size)
                    told = check_pure(self, step_images, kind, step)
                    self.assertEqual(told, sorted({led(table, step) for table in kind.tables}))
        check_refusals(self, step_images, {"kind": plain_kind(2), "step": (1, 2)},
                       [("kind", BAD_KINDS, BadKind), ("step", BAD_STEPS, BadStep)])

    def test_is_wider(self):
        for size in (1, 2, 3):
            for one in kinds_of(size):
                self.assertIs(is_wider(plain_kind(size), one), True)
                for other in kinds_of(size):
                    self.assertIs(is_wider(one, other), set(one.tables) <= set(other.tables))
        self.assertIs(is_wider(plain_kind(1), mirror_kind(2)), False)
        check_refusals(self, is_wider, {"one": plain_kind(2), "other": plain_kind(1)},
                       [("one", BAD_KINDS, BadKind), ("other", BAD_KINDS, BadKind)])


if __name__ == "__main__":
    unittest.main()
