"""[73] Walks, their times and parts, [74] claims of walks, [75] walks as texts."""

import itertools
import unittest
from fractions import Fraction

from pacerose.errors import (BadCount, BadCounts, BadFacts, BadKind, BadRose, BadRows, BadSize, BadText, BadWalk, TooMany)
from pacerose.kinds import Kind, mirror_kind, plain_kind
from pacerose.roses import Rose, is_kept
from pacerose.trips import is_trip, trip, trip_sum, trip_times
from pacerose.walkclaims import against, ahead, always, slower, walk_papers, when
from pacerose.walks import Walk, names, parts, walked
from pacerose.walktexts import read_walk, walk_text
from tests.helpers import (BAD_KINDS, BAD_ROSES, BAD_SIZES, NINE, ODD, QUARTER, any_rose, check_pure, check_refusals,
                           fails, is_int, kinds_of, led_by, plus, row_of, seeded, takes, times, value)
from tests.test_facts import BAD_FACT_LISTS, any_fact, takes_all
from tests.test_following import BY_HAND, QUARREL, is_here
from tests.test_routes import oracle_weights

GO = ("go", (1, 2))
BAD_WALKS = [None, 5, "go 1 2", [], (), [GO], Walk, Walk(1, []), Walk(3, [("go", (1, 2, 3))]), Rose(2, 1, []), {}, object()]
UNSIZED_WALKS = [bad for bad in BAD_WALKS if not isinstance(bad, Walk)]
TALL = 10 ** 400
BAD_ROW = [None, 5, "go", (), [], ("go",), ["go", (1, 2)], ("go", [1, 2]), ("go", (1,)), ("go", (1, 2, 3)), ("go", (True, 2)),
           ("go", (1.0, 2)), ("go", (1, 2), ()), ("Go", (1, 2)), (b"go", (1, 2)), ("go", (TALL, 0)), ("go", (0, -TALL)),
           ("back",), ("back", None), ("back", GO), ("back", [GO], []), ("back", [None]), ("back", {}), ("back", "go"),
           ("led", [GO]), ("led", ((1, 0), (0, 1))), ("led", [(1, 0), (0, 1)], []), ("led", ((1,),), []),
           ("led", ((1, 0), [0, 1]), []), ("led", ((1, 0), (0, True)), []), ("led", ((1, 0), (0, TALL)), []),
           ("led", ((1, 0), (0, 1)), [], []), ("led", ((1, 0), (0, 1)), None), ("times", -1, []), ("times", True, []),
           ("times", 1.0, []), ("times", TALL, []), ("times", 2), ("times", [GO]), ("times", 2, None), ("times", 2, [[]]),
           ("loops", "", []), ("loops", "abcdefghi", []), ("loops", "A", []), ("loops", "a1", []), ("loops", "a b", []),
           ("loops", b"a", []), ("loops", None, []), ("loops", "\u00e4", []), ("loops", "a"), ("loops", "a", None),
           ("loops", "a", [("loops", "b", [])]), ("loops", "a", [("back", [("times", 1, [("loops", "a", [])])])]),
           ("best",), ("best", []), ("best", ()), ("best", None), ("best", [GO]), ("best", [None]), ("best", [[GO], None]),
           ("best", [[]], []), ("best", [[("loops", "a", [])]]), ("best", [[("best", [[("loops", "a", [])]])]]),
           ("way", []), ("way", "a", []), ("", "a", []), (None, "a", []), ({}, "a", []), ("", []), (None, []), (1, []), ({}, [])]


def nested(deep, row=GO):
    """Rows with the row so deep in them."""
    rows = [row]
    for _ in range(deep - 1):
        rows = [("back", rows)]
    return rows


def any_rows(r, size, deep=1, loose=True, many=None):
    found = []
    for _ in range(r.randint(0, 2 if deep > 1 else 3) if many is None else many):
        word = r.choice(["go", "go", "go", "back", "led", "times", "loops", "loops", "best"])
        if word == "go" or deep == 8 or (word == "loops" and not loose):
            found.append(("go", row_of(r, size, 2)))
        elif word == "back":
            found.append(("back", any_rows(r, size, deep + 1, loose)))
        elif word == "led":
            table = tuple(row_of(r, size, 1) for _ in range(size))
            found.append(("led", table, any_rows(r, size, deep + 1, loose)))
        elif word == "times":
            found.append(("times", r.choice([0, 1, 2, 3]), any_rows(r, size, deep + 1, loose)))
        elif word == "loops":
            found.append(("loops", r.choice(["a", "b", "ab"]), any_rows(r, size, deep + 1, False)))
        else:
            found.append(("best", [any_rows(r, size, deep + 1, False) for _ in range(r.randint(1, 2))]))
    return found


def any_walk(r, size):
    return Walk(size, any_rows(r, size))


def oracle_names(rows):
    found = set()
    for row in rows:
        if row[0] == "loops":
            found.add(row[1])
        for inside in (row[1] if row[0] == "best" else [] if row[0] == "go" else [row[-1]]):
            found |= oracle_names(inside)
    return found


def oracle_time(rose, rows, counts, turn):
    """What rows take if each step is changed by turn."""
    told = Fraction(0)
    for row in rows:
        if row[0] == "go":
            told += takes(rose, turn(row[1]))
        elif row[0] == "back":
            told += oracle_time(rose, row[1], counts, lambda v: turn(times(-1, v)))
        elif row[0] == "led":
            told += oracle_time(rose, row[2], counts, lambda v, table=row[1]: turn(led_by(table, v)))
        elif row[0] == "best":
            told += min(oracle_time(rose, way, counts, turn) for way in row[1])
        else:
            told += (row[1] if row[0] == "times" else counts[row[1]]) * oracle_time(rose, row[2], counts, turn)
    return told


def oracle_routes(size, rows, name, turn=lambda v: v, often=1):
    """All routes of rows, by choosing one for each row; loops of other names are left out."""
    choices = []
    for row in rows:
        if row[0] == "go":
            choices.append([trip(size, [(turn(row[1]), often)])] if name == "" else [()])
        elif row[0] == "back":
            choices.append(oracle_routes(size, row[1], name, lambda v: turn(times(-1, v)), often))
        elif row[0] == "led":
            choices.append(oracle_routes(size, row[2], name, lambda v, table=row[1]: turn(led_by(table, v)), often))
        elif row[0] == "times":
            choices.append(oracle_routes(size, row[2], name, turn, often * row[1]))
        elif row[0] == "loops":
            choices.append(oracle_routes(size, row[2], "", turn, often) if row[1] == name else [()])
        elif name == "":
            choices.append(sorted({route for way in row[1] for route in oracle_routes(size, way, "", turn, often)}))
    found = set()
    for chosen in itertools.product(*choices):
        whole = ()
        for route in chosen:
            whole = trip_sum(size, whole, route)
        found.add(whole)
    return sorted(found)


class WalksTest(unittest.TestCase):
    def test_by_hand(self):
        walk = Walk(2, [GO, ("best", [[], [("go", (3, 0)), ("go", (0, 1))]]), ("loops", "n", [("times", 2, [GO])])])
        self.assertEqual(walk.rows, (GO, ("best", ((), (("go", (3, 0)), ("go", (0, 1))))), ("loops", "n", (("times", 2, (GO,)),))))
        self.assertEqual((walk.size, list(vars(walk))), (2, ["size", "rows"]))
        self.assertEqual(names(walk), ["n"])
        self.assertEqual(parts(walk), {"": [(((0, 1), 1), ((1, 0), 3), ((1, 2), 1)), (((1, 2), 1),)], "n": [(((1, 2), 2),)]})
        self.assertEqual(list(parts(walk)), ["", "n"])
        rose = Rose(2, 2, [(1, 1), (0, -1)])
        self.assertEqual(walked(rose, walk, {"n": 5, "other": 0}), (33, 2))
        self.assertEqual(walked(rose, walk, {"n": 0}), (3, 2))
        self.assertEqual((names(Walk(1, [])), parts(Walk(1, [])), walked(Rose(1, 1, []), Walk(1, []), {})), ([], {"": [()]}, (0, 1)))
        # The best way is chosen as it is gone: turned about here.
        back = Walk(1, [("back", [("best", [[("go", (1,))], [("go", (-1,))]])])])
        self.assertEqual(walked(Rose(1, 1, [(3,)]), back, {}), (0, 1))
        self.assertEqual(walked(Rose(1, 1, [(3,), (-2,)]), back, {}), (2, 1))

    def test_equal(self):
        self.assertTrue(Walk(2, [GO]) == Walk(2, (GO,)))
        self.assertTrue(Walk(2, [("best", [[GO], ()])]) == Walk(2, [("best", ((GO,), []))]))
        self.assertFalse(Walk(2, [GO]) == Walk(2, [GO, GO]))
        self.assertFalse(Walk(1, []) == Walk(2, []))
        self.assertFalse(Walk(2, [GO]) == (GO,))
        self.assertTrue(Walk(2, []) != None)  # noqa: E711

    def test_wrong_rows(self):
        for bad in BAD_ROW:
            fails(self, BadRows, Walk, 2, [bad])
            fails(self, BadRows, Walk, 2, [GO, ("back", [("times", 3, [bad])])])
            fails(self, BadRows, Walk, 2, [("best", [[], [bad]])])
        for bad in [None, 5, "go", {}, {GO: 1}, GO, {1, 2}, True]:
            fails(self, BadRows, Walk, 2, bad)
        check_refusals(self, Walk, {"size": 2, "rows": [GO]}, [("size", BAD_SIZES, BadSize), ("rows", [None, [GO, None]], BadRows)])
        Walk(2, [("go", (TALL - 1, 1 - TALL)), ("times", TALL - 1, []), ("led", ((TALL - 1, 0), (0, 1 - TALL)), [])])
        Walk(2, [("loops", "abcdefgh", []), ("loops", "z", [("best", [[]])]), ("back", [("led", ((0, 0), (0, 0)), [("loops", "z", [])])])])

    def test_depth(self):
        Walk(2, nested(8))
        Walk(2, nested(8, ("back", [])))
        Walk(2, nested(8, ("best", [[], []])))
        Walk(2, nested(8, ("loops", "a", ())))
        fails(self, BadRows, Walk, 2, nested(9))
        fails(self, BadRows, Walk, 2, nested(8, ("best", [[GO]])))
        fails(self, BadRows, Walk, 2, nested(8, ("loops", "a", [GO])))

    def test_many_rows(self):
        Walk(2, [GO] * 200)
        Walk(2, [("best", [[]] * 300)] * 200)
        Walk(2, [("back", [GO] * 99), ("best", [[GO] * 50, [GO] * 49])])
        fails(self, (TooMany, {"most": 200}), Walk, 2, [GO] * 201)
        fails(self, (TooMany, {"most": 200}), Walk, 2, [("back", [GO] * 99), ("best", [[GO] * 50, [GO] * 50])])
        fails(self, BadRows, Walk, 2, [GO] * 201 + [None])
        fails(self, BadSize, Walk, 4, [GO] * 201)

    def test_names(self):
        r = seeded(731)
        for _ in range(300):
            walk = any_walk(r, r.randint(1, 3))
            self.assertEqual(check_pure(self, names, walk), sorted(oracle_names(walk.rows)))
        for bad in UNSIZED_WALKS:
            fails(self, BadWalk, names, bad)
            fails(self, BadWalk, parts, bad)
            fails(self, BadWalk, walk_text, bad)

    def test_walked_and_parts(self):
        r, seen = seeded(732), 0
        for _ in range(400):
            size = r.randint(1, 3)
            walk, rose = any_walk(r, size), any_rose(r, size, 3)
            counts = {name: r.choice([0, 1, 2, NINE]) for name in names(walk)}
            told = check_pure(self, walked, rose, walk, {**counts, "zz": 3})
            self.assertEqual(value(told), oracle_time(rose, walk.rows, counts, lambda v: v))
            try:
                found = check_pure(self, parts, walk)
            except TooMany:
                continue
            seen += 1
            self.assertEqual(list(found), ["", *names(walk)])
            for name in found:
                self.assertEqual(found[name], oracle_routes(size, walk.rows, name))
                self.assertTrue(all(is_trip(size, route) for route in found[name]))
            least = {name: min(takes_all(rose, route) for route in found[name]) for name in found}
            self.assertEqual(value(told), least[""] + sum(counts[name] * least[name] for name in counts))
        self.assertGreater(seen, 300)

    def test_sixty_routes(self):
        def ways(many, at=0):
            return ("best", [[("go", (k + 1, at))] for k in range(many)])
        self.assertEqual(len(parts(Walk(2, [ways(60)]))[""]), 60)
        many = (TooMany, {"most": 60})
        fails(self, many, parts, Walk(2, [ways(61)]))
        self.assertEqual(len(parts(Walk(2, [ways(6), ways(10, 50)]))[""]), 60)
        fails(self, many, parts, Walk(2, [ways(7), ways(10, 50)]))
        # Within rows, too, though nothing of it is left above.
        fails(self, many, parts, Walk(2, [("times", 0, [ways(61)])]))
        fails(self, many, parts, Walk(2, [("led", ((0, 0), (0, 0)), [ways(61)])]))
        fails(self, many, parts, Walk(2, [("loops", "a", [ways(61)])]))
        fails(self, many, parts, Walk(2, [("loops", "a", [ways(6)]), ("back", [("loops", "a", [ways(11, 50)])])]))
        fails(self, many, parts, Walk(2, [("best", [[], [ways(61)]])]))
        self.assertEqual(parts(Walk(2, [("times", 0, [ways(60)])])), {"": [()]})
        # Each part by itself: 60 of one name, 60 of another one, 60 outside.
        told = parts(Walk(2, [ways(60), ("loops", "a", [ways(60)]), ("back", [("loops", "b", [ways(60)])])]))
        self.assertEqual([len(told[name]) for name in told], [60, 60, 60])
        # What comes twice counts once.
        self.assertEqual(len(parts(Walk(2, [ways(10, 1), ways(10, 1)]))[""]), 55)

    def test_wrong(self):
        walk = Walk(2, [GO, ("loops", "n", [GO]), ("loops", "m", [])])
        bad = [None, 5, [], (), {}, {"n": 1}, {"n": 1, "m": -1}, {"n": 1, "m": True}, {"n": 1, "m": 1.0}, {"n": 1, "m": None},
               {"n": 1, "m": 1, 5: 1}, {"n": 1, "m": 1, "other": -1}, {"n": 1, "m": 1, None: 1}, [("n", 1), ("m", 1)]]
        check_refusals(self, walked, {"rose": Rose(2, 1, [(1, 0)]), "walk": walk, "counts": {"n": 1, "m": 2}},
                       [("rose", BAD_ROSES, BadRose), ("walk", BAD_WALKS, BadWalk), ("counts", bad, BadCounts)])
        self.assertEqual(walked(Rose(2, 1, [(1, 0)]), walk, {"n": 1, "m": 2, "A 1": 7}), (2, 1))


def problem(r, low=-1):
    kind = r.choice(kinds_of(r.randint(1, 3)))
    facts = [any_fact(r, kind.size, 2, low) for _ in range(r.choice([0, 0, 0, 1, 2]))]
    return kind, facts


def two_walks(r, size):
    """Often the same steps, in other orders and turned, so that either may be quicker."""
    one = any_rows(r, size)
    other = [*any_rows(r, size, many=r.randint(0, 1)), *r.sample(one, r.randint(0, len(one)))]
    return (Walk(size, one), Walk(size, other)) if r.random() < 0.5 else (Walk(size, other), Walk(size, one))


def few_routes(walk):
    try:
        return max(len(routes) for routes in parts(walk).values()) <= 4
    except TooMany:
        return False


def both_parts(one, other):
    here, there = parts(one), parts(other)
    return {name: (here.get(name, [()]), there.get(name, [()])) for name in sorted({*here, *there})}


ROADS = [Walk(2, [("go", (5, 0)), ("loops", "n", [("go", (1, 1))])]), Walk(2, [("loops", "n", [("go", (2, 0)), ("go", (0, 1))])]),
         Walk(2, [("loops", "n", [("go", (1, 0)), ("go", (0, 1))])])]


class WalkClaimsTest(unittest.TestCase):
    def test_by_hand(self):
        kind = plain_kind(2)
        self.assertEqual(when(kind, ROADS[0], ROADS[1]), 5)
        self.assertIsNone(against(kind, ROADS[0], ROADS[1]))
        self.assertIsNone(when(kind, ROADS[0], ROADS[2]))
        self.check_against(kind, ROADS[0], ROADS[2], against(kind, ROADS[0], ROADS[2]))
        self.check_against(kind, ROADS[0], ROADS[2], Rose(2, 1, [(1, 0)]))
        self.assertEqual(when(kind, ROADS[2], ROADS[0]), None)
        self.assertEqual((when(kind, Walk(2, []), Walk(2, [])), when(kind, Walk(2, []), ROADS[0])), (0, 0))
        self.assertIs(always(kind, [], Walk(2, []), ROADS[0]), True)
        self.assertIs(always(kind, [], ROADS[0], ROADS[1]), False)
        self.assertEqual(walk_papers(kind, [], Walk(2, []), Walk(2, [])), {"": (((1,), (1,), (), (1, ())),)})
        self.assertEqual(list(walk_papers(kind, QUARREL, ROADS[0], ROADS[1])), ["", "n"])
        self.assertIsNone(slower(kind, QUARREL, ROADS[0], ROADS[1]))
        # A name that one of them lacks.
        self.assertEqual(when(kind, ROADS[0], Walk(2, [("go", (5, 0))])), None)
        self.assertEqual(slower(kind, [], Walk(2, [("loops", "n", [GO])]), Walk(2, [("go", (1, 2))]))[1], {"n": 2})
        self.assertIs(always(kind, [], Walk(2, [("go", (1, 0))]), Walk(2, [("go", (1, 0)), ("loops", "n", [GO])])), True)

    def check_against(self, kind, one, other, rose):
        self.assertTrue(is_kept(kind, rose))
        wanted = sorted({*names(one), *names(other)})
        for number in (0, 1, 7, NINE, 10 ** 40):
            told = []
            for many in (number, number + 1, number + 10 ** 45):
                for high in [wanted, *[[name] for name in wanted]]:
                    counts = {name: many if name in high else number for name in wanted}
                    told.append(value(walked(rose, one, counts)) > value(walked(rose, other, counts)))
            self.assertTrue(any(told))

    def test_always_and_slower(self):
        r, seen = seeded(741), {True: 0, False: 0}
        for _ in range(250):
            kind, facts = problem(r)
            one, other = two_walks(r, kind.size)
            if not few_routes(one) or not few_routes(other):
                continue
            told = check_pure(self, always, kind, facts, one, other)
            papers, found = check_pure(self, walk_papers, kind, facts, one, other), check_pure(self, slower, kind, facts, one, other)
            seen[told] += 1
            self.assertEqual((papers is None, found is None), (not told, told))
            if told:
                paired = both_parts(one, other)
                self.assertEqual(list(papers), list(paired))
                for name, (ones, others) in paired.items():
                    self.assertEqual(len(papers[name]), len(others))
                    for route, paper in zip(others, papers[name]):
                        self.assertTrue(oracle_weights(kind, facts, ones, [route], paper))
            else:
                rose, counts = found
                self.assertTrue(is_here(kind, facts, rose))
                self.assertEqual(list(counts), sorted({*names(one), *names(other)}))
                self.assertTrue(all(is_int(count) and count >= 0 for count in counts.values()))
                self.assertGreater(value(walked(rose, one, counts)), value(walked(rose, other, counts)))
        self.assertGreater(min(seen.values()), 50)

    def test_when_and_against(self):
        r, seen = seeded(742), {}
        for _ in range(300):
            kind = r.choice(kinds_of(r.choice([1, 2, 2, 3])))
            one, other = two_walks(r, kind.size)
            if r.random() < 0.5:
                # More of each loop for other: so that some number may be enough.
                extra = [("loops", name, [("go", row_of(r, kind.size, 2))]) for name in names(one)]
                one, other = Walk(kind.size, [*one.rows, ("go", row_of(r, kind.size, 3))]), Walk(kind.size, [*one.rows, *extra])
            if not few_routes(one) or not few_routes(other):
                continue
            number, rose = check_pure(self, when, kind, one, other), check_pure(self, against, kind, one, other)
            self.assertNotEqual(number is None, rose is None)
            key = number if number in (None, 0) else "more"
            seen[key] = seen.get(key, 0) + 1
            if number is None:
                self.check_against(kind, one, other, rose)
                continue
            self.assertTrue(is_int(number) and number >= 0)
            for many in {0, number // 2, number - 1, number, number + 1, 2 * number + 3} - {-1}:
                try:
                    ones, others = ahead(one, many), ahead(other, many)
                    self.assertEqual(always(kind, [], ones, others), many >= number, (number, many))
                except TooMany:
                    pass
        self.assertGreater(min(seen.values()), 20)
        self.assertGreaterEqual(len(seen), 3)

    def test_routes_multiplied(self):
        def ways(many, at):
            return ("best", [[("go", (k + 1, at))] for k in range(many)])
        short = Walk(2, [])
        wide = Walk(2, [ways(10, 1), ("loops", "a", [ways(6, 2)])])
        self.assertEqual(when(plain_kind(2), short, wide), 0)
        self.assertIsNone(against(plain_kind(2), short, wide))
        wider = Walk(2, [ways(9, 1), ("loops", "a", [ways(7, 2)])])
        for call in (when, against):
            fails(self, (TooMany, {"most": 60}), call, plain_kind(2), short, wider)
            fails(self, (TooMany, {"most": 60}), call, plain_kind(2), Walk(2, [ways(61, 0)]), short)
            self.assertEqual(call(plain_kind(2), wider, short) is None, call is when)
        self.assertIs(always(plain_kind(2), [], short, wider), True)
        self.assertEqual(len(walk_papers(plain_kind(2), [], Walk(2, [("best", [[], [GO]])]), Walk(2, [ways(30, 1)]))[""]), 30)
        for call in (always, walk_papers, slower):
            fails(self, (TooMany, {"most": 60}), call, plain_kind(2), [], short, Walk(2, [ways(61, 0)]))

    def test_ahead(self):
        walk = Walk(2, [GO, ("back", [("loops", "a", [GO, ("best", [[]])]), GO]), ("loops", "b", []), ("best", [[GO]])])
        self.assertEqual(check_pure(self, ahead, walk, 7), Walk(2, [
            GO, ("back", [("times", 7, [GO, ("best", [[]])]), ("loops", "a", [GO, ("best", [[]])]), GO]), ("times", 7, []),
            ("loops", "b", []), ("best", [[GO]])]))
        self.assertEqual(ahead(Walk(2, nested(8, ("loops", "a", []))), 0), Walk(2, ahead_nested()))
        ahead(walk, TALL - 1)
        check_refusals(self, ahead, {"walk": walk, "number": 3}, [
            ("walk", UNSIZED_WALKS, BadWalk), ("number", [-1, True, 1.0, None, "1", TALL, (1,)], BadCount)])
        long = Walk(2, [("loops", "a", [GO] * 99)])
        self.assertEqual(len(ahead(long, 1).rows), 2)
        fails(self, (TooMany, {"most": 200}), ahead, Walk(2, [("loops", "a", [GO] * 100)]), 1)
        fails(self, BadCount, ahead, Walk(2, [("loops", "a", [GO] * 100)]), -1)

    def test_wrong(self):
        good = {"kind": plain_kind(2), "facts": BY_HAND, "one": ROADS[0], "other": ROADS[1]}
        wrong = [("kind", BAD_KINDS, BadKind), ("facts", BAD_FACT_LISTS, BadFacts), ("one", BAD_WALKS, BadWalk),
                 ("other", BAD_WALKS, BadWalk)]
        for call in (always, walk_papers, slower):
            check_refusals(self, call, good, wrong)
        for call in (when, against):
            check_refusals(self, call, {name: good[name] for name in good if name != "facts"},
                           [row for row in wrong if row[0] != "facts"])

    def test_great_numbers(self):
        r = seeded(743)
        for kind in (plain_kind(2), mirror_kind(2), Kind(2, [QUARTER])):
            step, loop = row_of(r, 2, NINE), row_of(r, 2, NINE)
            one = Walk(2, [("go", step), ("loops", "n", [("go", plus(step, loop))])])
            other = Walk(2, [("loops", "n", [("go", times(2, step)), ("go", loop)])])
            self.assertEqual(when(kind, one, other), 1)
            self.assertIs(always(kind, [], ahead(one, TALL - 1), ahead(other, TALL - 1)), True)


def ahead_nested():
    """Rows seven deep, with a loop and what is ahead of it within."""
    rows = [("times", 0, []), ("loops", "a", [])]
    for _ in range(7):
        rows = [("back", rows)]
    return rows


TEXT = """best
  way
  way
    back
      go 1 -2
led 1 0 -3 4
  times 0
    loops ab
go 0 0"""


class WalkTextsTest(unittest.TestCase):
    def test_by_hand(self):
        walk = Walk(2, [("best", [[], [("back", [("go", (1, -2))])]]), ("led", ((1, 0), (-3, 4)), [("times", 0, [("loops", "ab", [])])]),
                        ("go", (0, 0))])
        self.assertEqual(check_pure(self, walk_text, walk), TEXT)
        self.assertEqual(check_pure(self, read_walk, 2, TEXT), walk)
        self.assertEqual((walk_text(Walk(3, [])), read_walk(3, "")), ("", Walk(3, [])))

    def test_both_ways(self):
        r = seeded(751)
        for _ in range(300):
            size = r.randint(1, 3)
            walk = any_walk(r, size)
            text = walk_text(walk)
            self.assertEqual(read_walk(size, text), walk)
            if text:
                self.assertEqual(len(text.split("\n")), self.lines(walk.rows))
        tall = Walk(1, [("go", (1 - TALL,)), ("times", TALL - 1, []), ("led", ((TALL - 1,),), [])])
        self.assertEqual(read_walk(1, walk_text(tall)), tall)

    def lines(self, rows):
        return sum(1 + (sum(1 + self.lines(way) for way in row[1]) if row[0] == "best" else
                        0 if row[0] == "go" else self.lines(row[-1])) for row in rows)

    def bad(self, size, lines, line):
        fails(self, (BadText, {"line": line}), read_walk, size, "\n".join(lines))

    def test_bad_lines(self):
        for line in ["", " ", "go", "go 1", "go 1 2 3", "go 1 2 ", " go 1 2", "  go 1 2", "go  1 2", "go 1  2", "go +1 2", "go 01 2",
                     "go -0 2", "go 1 - 2", "go 1 2\r", "go\t1 2", "go 1,2", "go 1.0 2", "go 1 \u0662", "go \u00b2 1", "Go 1 2", "back 1",
                     "back ", "led", "led 1 2 3", "led 1 2 3 4 5", "led 1 2 3 x", "times", "times -1", "times 1 2", "times x", "times 00",
                     "loops", "loops A", "loops abcdefghi", "loops a b", "loops a1", "best 1", "way", "  way", "rows", "hello", "hello ab", "way ab", "Loops ab", "go 1 2#",
                     "go " + str(TALL) + " 1", "go 1 -" + str(TALL), "times " + str(TALL), "go 1 2\x0b", "loops \u00e4", "times 1_0"]:
            if line != "":
                self.bad(2, [line], 1)
            self.bad(2, ["go 1 2", line], 2)
            self.bad(2, ["back", "  back", "    " + line, "go 1 2"], 3)
            self.bad(2, ["best", "  way", "    " + line], 3)
        self.assertEqual(read_walk(2, "go 1 2\nback").rows, (GO, ("back", ())))

    def test_where_lines_stand(self):
        self.bad(2, ["go 1 2", "  go 1 2"], 2)
        self.bad(2, ["back", " go 1 2"], 2)
        self.bad(2, ["back", "   go 1 2"], 2)
        self.bad(2, ["back", "    go 1 2"], 2)
        self.bad(2, ["best"], 2)
        self.bad(2, ["back", "  best"], 3)
        self.bad(2, ["best", "go 1 2"], 2)
        self.bad(2, ["best", "  go 1 2"], 2)
        self.bad(2, ["best", "way"], 2)
        self.bad(2, ["best", "    way"], 2)
        self.bad(2, ["best", "  way", "  go 1 2"], 3)
        self.bad(2, ["best", "  way", "      go 1 2"], 3)
        self.bad(2, ["best", "  way", "    best", "  way"], 4)
        self.bad(2, ["best", "  way", "go 1 2", "  way"], 4)
        self.bad(2, ["back", "  way"], 2)
        self.bad(2, ["back", "way"], 2)
        self.bad(2, ["back", "  back", "  way"], 3)
        self.bad(2, ["best", "  way", "    back", "    way"], 4)
        self.bad(2, ["best", "  way", "    back", "      way"], 4)
        self.assertEqual(read_walk(2, "best\n  way\n    back\n  way\ngo 1 2").rows, (("best", ((("back", ()),), ())), GO))
        self.assertEqual(read_walk(2, "best\n  way\n    best\n      way\n  way").rows, (("best", ((("best", ((),)),), ())),))
        # No loops in rows of loops or best.
        self.bad(2, ["loops a", "  back", "    loops b"], 3)
        self.bad(2, ["best", "  way", "    loops b"], 3)
        self.bad(2, ["best", "  way", "    back", "      loops b"], 4)
        self.assertEqual(names(read_walk(2, "loops a\n  back\nloops b\nback\n  loops c")), ["a", "b", "c"])
        # Size comes first; the text's lines are told for the size.
        self.bad(1, ["go 1", "go 1 2"], 2)
        self.bad(3, ["led 1 2 3 4 5 6 7 8 9", "led 1 2 3 4"], 2)

    def test_depth_and_many(self):
        deep = ["  " * k + "back" for k in range(8)]
        self.assertEqual(read_walk(2, "\n".join(deep)), Walk(2, nested(8, ("back", []))))
        self.bad(2, [*deep, "  " * 8 + "go 1 2"], 9)
        ways = deep[:7] + ["  " * 7 + "best", "  " * 8 + "way"]
        self.assertEqual(read_walk(2, "\n".join(ways)), Walk(2, nested(8, ("best", [[]]))))
        self.bad(2, [*ways, "  " * 9 + "go 1 2"], 10)
        self.bad(2, ways[:-1], 9)
        self.assertEqual(len(read_walk(2, "\n".join(["go 1 2"] * 200)).rows), 200)
        self.bad(2, ["go 1 2"] * 201, 201)
        self.bad(2, ["go 1 2"] * 201 + ["x"], 201)
        self.assertEqual(len(read_walk(2, "\n".join(["go 1 2"] * 199 + ["best"] + ["  way"] * 9)).rows), 200)
        self.bad(2, ["go 1 2"] * 199 + ["best"] + ["  way"] * 9 + ["    go 1 2"], 210)
        self.bad(2, ["go 1 2"] * 200 + ["x"], 201)

    def test_first_line_that_cannot_stand(self):
        """A prefix of a text can stand exactly if some walk's text begins with it: here walks are cut."""
        r = seeded(752)
        for _ in range(200):
            size = r.randint(1, 3)
            walk = any_walk(r, size)
            lines = walk_text(walk).split("\n")
            cut = lines[:r.randint(0, len(lines))]
            try:
                told = read_walk(size, "\n".join(cut))
                self.assertEqual(walk_text(told), "\n".join(cut))
            except BadText as raised:
                if cut != [""]:
                    self.assertEqual((raised.line, cut[-1].strip()), (len(cut) + 1, "best"))
            at = r.randrange(len(lines))
            if lines[at]:
                self.bad(size, lines[:at] + [lines[at] + r.choice([" ", " x", "#"])] + lines[at + 1:], at + 1)
                self.bad(size, lines[:at] + [" " + lines[at]] + lines[at + 1:], at + 1)

    def test_wrong(self):
        check_refusals(self, read_walk, {"size": 2, "text": TEXT}, [
            ("size", BAD_SIZES, BadSize), ("text", [None, 5, b"go 1 2", ["go 1 2"], (), True, {}], (BadText, {"line": 0}))])
        for bad in UNSIZED_WALKS:
            fails(self, BadWalk, walk_text, bad)
        for thing in ODD:
            if not isinstance(thing, str):
                fails(self, (BadText, {"line": 0}), read_walk, 2, thing)


if __name__ == "__main__":
    unittest.main()
