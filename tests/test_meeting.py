"""[80] Spots and pulls, [81] halving, [82] regrets, [83] spots that hold."""

import math
import unittest
from fractions import Fraction

from pacerose.claims import never_longer
from pacerose.errors import BadParty, BadRose, BadSpot
from pacerose.fronts import are_stops, holds, lean, stops
from pacerose.halving import (better_place, cost_rose, fence, halves, halving, is_fence, never_worse, spread_rose,
                              worse_row)
from pacerose.kinds import mirror_kind
from pacerose.meeting import are_pulls, best_spot, cheaper, cost, pulls
from pacerose.regrets import are_calm, calm_papers, calm_spot, least_regret, regret, regret_row
from pacerose.roses import Rose, is_kept
from pacerose.sums import rose_kept
from pacerose.trips import trip
from pacerose.ways import never_slower
from tests.helpers import (BAD_ROSES, BAD_SCALES, NINE, ODD, any_rose, check_judge, check_odd, check_pure, check_refusals, fails,
                           inner, is_int, is_int_row, row_of, rows_of, seeded, takes, value, without_divisor)

MIRROR = mirror_kind(2)
TRIANGLE = {(0, 0): 1, (4, 0): 1, (0, 4): 1}
BAD_PARTIES = [None, 5, "ab", [], (), {}, [((0, 0), 1)], {(0, 0): 0}, {(0, 0): -1}, {(0, 0): True}, {(0, 0): 1.0}, {(0, 0): None},
               {(0,): 1}, {(0, 0, 0): 1}, {(True, 0): 1}, {(1.0, 0): 1}, {"a": 1}, {0: 1}, {(0, 0): 1, (1, 0): "1"},
               {(k, 0): 1 for k in range(9)}, {None: 1}, {(0, 0): (1, 1)}]
BAD_SPOTS = [None, 5, (), (1,), (1, (0, 0), 0), [1, (0, 0)], (1, [0, 0]), (2, (2, 4)), (2, (0, 0)), (1, (0,)), (1, (0, 0, 0)),
             (1, (True, 0)), (1, (1.0, 0)), (0, 0), ((0, 0), 1), "spot", {}] + [(bad, (1, 0)) for bad in BAD_SCALES]
BAD_MEETING_ROSES = BAD_ROSES + [Rose(1, 1, []), Rose(3, 1, []), Rose(2, 1, [(1, 0)]), Rose(2, 1, [(1, 0), (0, 1), (-1, -1)])]


def mirrored(r, rows=None, most=4):
    return rose_kept(MIRROR, Rose(2, r.choice([1, 2, 3]), rows_of(r, 2, r.randint(0, 4) if rows is None else rows, most)))


def flat_rose(r):
    """Rows on one line."""
    row = row_of(r, 2, 3)
    return rose_kept(MIRROR, Rose(2, r.randint(1, 3), [row, tuple(2 * part for part in row)]))


def any_party(r, most=None):
    most = r.choice([2, 3, 5, 10]) if most is None else most
    many, shape, found = r.choice([1, 2, 3, 3, 4, 5, 6, 8]), r.random(), {}
    while len(found) < many and r.random() < 0.95:
        place = row_of(r, 2, most)
        if shape < 0.2:
            place = (place[0], 2 * place[0] + 1)
        found[place] = r.choice([1, 1, 2, 3]) if shape < 0.8 else 1
        if 0.2 < shape < 0.35 and len(found) < 8:
            found[(2 - place[0], 1 - place[1])] = found[place]
    if r.random() < 0.1 and found:
        found[r.choice(sorted(found))] = 9
    return found or {row_of(r, 2, most): 1}


def spot_of(point):
    across, up = Fraction(point[0]), Fraction(point[1])
    scale = math.lcm(across.denominator, up.denominator)
    return scale, (int(across * scale), int(up * scale))


def any_spot(r, party):
    chance = r.random()
    if chance < 0.3:
        return 1, r.choice(sorted(party))
    if chance < 0.45:
        one, other = r.choice(sorted(party)), r.choice(sorted(party))
        return spot_of((Fraction(one[0] + other[0], 2), Fraction(one[1] + other[1], 2)))
    if chance < 0.6 and halving(party):
        return r.choice(halving(party))
    if chance < 0.7:
        return calm_spot(party)
    return spot_of((Fraction(r.randint(-9, 9), r.randint(1, 3)), Fraction(r.randint(-9, 9), r.randint(1, 3))))


def point_of(spot):
    assert type(spot) is tuple and len(spot) == 2 and is_int(spot[0]) and spot[0] >= 1 and is_int_row(spot[1], 2), spot
    assert without_divisor((spot[0], *spot[1])), spot
    return Fraction(spot[1][0], spot[0]), Fraction(spot[1][1], spot[0])


def goes(rose, one, other):
    """The time from one point to another one, by the words of the document."""
    apart = (other[0] - one[0], other[1] - one[1])
    return max([0] + [inner(row, apart) for row in rose.rows]) / Fraction(rose.scale)


def oracle_cost(rose, party, point):
    return sum(weight * goes(rose, point, place) for place, weight in party.items())


def in_stick(party, row, point):
    return sum(weight * abs(inner(row, place) - inner(row, point)) for place, weight in party.items())


def cheapest(party, row):
    return min(in_stick(party, row, place) for place in party)


def critical(party, point):
    """Rows at which the order of the places and the point along the row changes, and those between: of both signs."""
    points = [point, *party]
    found = {(1, 0), (0, 1)}
    for one in points:
        for other in points:
            across, up = one[0] - other[0], one[1] - other[1]
            if (across, up) != (0, 0):
                found |= {(across, up), (-up, across)}
    signed = sorted(found | {(-across, -up) for across, up in found}, key=lambda row: math.atan2(row[1], row[0]))
    between = [(a[0] + b[0], a[1] + b[1]) for a, b in zip(signed, signed[1:] + signed[:1])]
    return [row for row in signed + between if row != (0, 0)]


def ahead_of(party, row, point, strict):
    here = inner(row, point)
    return sum(weight for place, weight in party.items() if inner(row, place) > here or (not strict and inner(row, place) == here))


def oracle_halves(party, point):
    return all(2 * ahead_of(party, row, point, True) <= sum(party.values()) for row in critical(party, point))


def oracle_pulls(rose, party, spot, thing):
    if type(thing) is not dict or len(thing) != len(party):
        return False
    point, across, up = point_of(spot), 0, 0
    for place, pull in thing.items():
        if not is_int_row(place, 2) or place not in party:
            return False
        if type(pull) is not tuple or len(pull) != 2 or not is_int(pull[0]) or pull[0] < 1 or not is_int_row(pull[1], 2):
            return False
        row = tuple(Fraction(part, pull[0]) for part in pull[1])
        # The corners' own normals are enough: a row is held if it is at no probe above the rose.
        probes = critical({corner: 1 for corner in rose.rows}, row) if rose.rows else [(1, 0), (0, 1), (-1, 0), (0, -1)]
        if any(inner(row, v) > max([0] + [inner(corner, v) for corner in rose.rows]) / Fraction(rose.scale) for v in probes):
            return False
        apart = (place[0] - point[0], place[1] - point[1])
        if inner(row, apart) != goes(rose, point, place):
            return False
        across, up = across + party[place] * row[0], up + party[place] * row[1]
    return across == 0 and up == 0


class MeetingTest(unittest.TestCase):
    def test_by_hand(self):
        rose = Rose(2, 1, [(1, 0), (-1, 0), (0, 1), (0, -1)])
        self.assertEqual(cost(rose, TRIANGLE, (1, (0, 0))), (8, 1))
        self.assertEqual(cost(Rose(2, 1, []), TRIANGLE, (3, (1, 1))), (0, 1))
        self.assertEqual(best_spot(rose, {(7, -3): 5}), (1, (7, -3)))
        self.assertEqual(pulls(rose, {(7, -3): 5}, (1, (7, -3))), {(7, -3): (1, (0, 0))})
        self.assertIsNone(cheaper(rose, {(7, -3): 5}, (1, (7, -3))))
        self.assertEqual(cheaper(rose, {(7, -3): 5}, (2, (7, -3))), (1, (7, -3)))
        stick = Rose(2, 1, [(1, 0), (-1, 0)])
        told = {(0, 0): (1, (-1, 0)), (4, 0): (1, (1, 0)), (0, 4): (1, (-1, 0))}
        self.assertIs(are_pulls(stick, TRIANGLE, (1, (0, 0)), told), False)
        self.assertIs(are_pulls(stick, TRIANGLE, (1, (0, 0)), {(0, 4): (2, (0, 0)), (4, 0): (1, (1, 0)), (0, 0): (2, (-2, 0))}), True)

    def check_spots(self, rose, party, spot):
        point, whole = point_of(spot), sum(party.values())
        told = check_pure(self, cost, rose, party, spot)
        self.assertEqual(value(told), oracle_cost(rose, party, point))
        pulling, better = check_pure(self, pulls, rose, party, spot), check_pure(self, cheaper, rose, party, spot)
        best = check_pure(self, best_spot, rose, party)
        self.assertEqual(pulls(rose, dict(reversed(party.items())), spot), pulling)
        self.assertEqual(best_spot(rose, dict(reversed(party.items()))), best)
        self.assertIsNotNone(pulls(rose, party, best))
        self.assertNotEqual(pulling is None, better is None)
        if pulling is None:
            self.assertLess(oracle_cost(rose, party, point_of(better)), oracle_cost(rose, party, point))
        else:
            self.assertTrue(oracle_pulls(rose, party, spot, pulling))
            self.assertIs(are_pulls(rose, party, spot, pulling), True)
            self.assertTrue(all(without_divisor((scale, *row)) for scale, row in pulling.values()))
            self.assertEqual(oracle_cost(rose, party, point), oracle_cost(rose, party, point_of(best)))
        for place in party:
            self.assertLessEqual(oracle_cost(rose, party, point_of(best)), oracle_cost(rose, party, place))
            if 2 * party[place] >= whole:
                self.assertIsNotNone(pulls(rose, party, (1, place)))
        return pulling is None

    def test_pulls_or_cheaper(self):
        r, seen = seeded(801), {True: 0, False: 0}
        for _ in range(300):
            party = any_party(r)
            rose = r.choice([mirrored(r), mirrored(r, 6), mirrored(r, 0), flat_rose(r)])
            seen[self.check_spots(rose, party, any_spot(r, party))] += 1
        self.assertGreater(min(seen.values()), 50)
        for _ in range(10):
            party = {row_of(r, 2, NINE): r.randint(1, NINE) for _ in range(5)}
            self.check_spots(mirrored(r, 3, NINE), party, (NINE - 1, (NINE, NINE)))

    def test_judge(self):
        r, seen = seeded(802), 0
        while seen < 20:
            party = any_party(r)
            rose, spot = mirrored(r), any_spot(r, party)
            told = pulls(rose, party, spot)
            if told is not None and len(party) < 5:
                seen += 1
                check_judge(self, lambda thing: are_pulls(rose, party, spot, thing), told,
                            lambda thing: oracle_pulls(rose, party, spot, thing))
                twice = {place: (2 * scale, tuple(2 * part for part in row)) for place, (scale, row) in reversed(told.items())}
                self.assertIs(are_pulls(rose, party, spot, twice), True)
        check_odd(self, lambda thing: are_pulls(Rose(2, 1, []), TRIANGLE, (1, (0, 0)), thing))
        # Held, and nothing together, but less than the time; as much as the time, but not held; other places.
        cross, stick, two = Rose(2, 1, [(1, 0), (-1, 0), (0, 1), (0, -1)]), Rose(2, 1, [(1, 0), (-1, 0)]), {(-1, 0): 1, (1, 0): 1}
        self.assertIs(are_pulls(cross, TRIANGLE, (1, (0, 0)), {place: (1, (0, 0)) for place in TRIANGLE}), False)
        right = {(-1, 0): (1, (-1, 0)), (1, 0): (1, (1, 0))}
        self.assertIs(are_pulls(stick, two, (1, (0, 0)), right), True)
        self.assertIs(are_pulls(stick, two, (1, (0, 0)), {(-1, 0): (1, (-1, 5)), (1, 0): (1, (1, -5))}), False)
        self.assertIs(are_pulls(stick, two, (1, (0, 0)), {**right, (5, 5): (1, (0, 0))}), False)
        self.assertIs(are_pulls(stick, two, (1, (0, 0)), {(-1, 0): (1, (-1, 0)), (2, 0): (1, (1, 0))}), False)
        self.assertIs(are_pulls(stick, {**two, (3, 0): 1}, (1, (0, 0)), {**right, (3, 0): (1, (1, 0))}), False)

    def test_wrong(self):
        good = {"rose": Rose(2, 1, [(1, 0), (-1, 0)]), "party": TRIANGLE, "spot": (2, (1, 0))}
        wrong = [("rose", BAD_MEETING_ROSES, BadRose), ("party", BAD_PARTIES, BadParty), ("spot", BAD_SPOTS, BadSpot)]
        for call in (cost, pulls, cheaper):
            check_refusals(self, call, good, wrong)
        check_refusals(self, are_pulls, {**good, "thing": None}, wrong)
        check_refusals(self, best_spot, {name: good[name] for name in ("rose", "party")}, wrong[:2])


def oracle_fence(party, thing):
    if type(thing) is not tuple or len(thing) != 3:
        return False
    told, across, up = 0, 0, 0
    for pair in thing:
        if type(pair) is not tuple or len(pair) != 2 or not is_int(pair[0]) or pair[0] < 1 or not is_int_row(pair[1], 2):
            return False
        weight, row = pair
        tops = [inner(row, place) for place in party if 2 * sum(
            many for other, many in party.items() if inner(row, other) <= inner(row, place)) > sum(party.values())]
        told, across, up = told + weight * min(tops), across + weight * row[0], up + weight * row[1]
    return (across, up) == (0, 0) and told < 0


class HalvingTest(unittest.TestCase):
    def test_by_hand(self):
        self.assertIs(is_fence(TRIANGLE, ((1, (1, 0)), (1, (0, 1)), (1, (-1, -1)))), True)
        self.assertEqual(halving(TRIANGLE), ())
        self.assertEqual(halving({(3, 5): 7}), ((1, (3, 5)),))
        self.assertEqual(halving({(3, 5): 7, (4, 5): 7}), ((1, (3, 5)), (1, (4, 5))))
        self.assertEqual(halving({(3, 5): 7, (4, 5): 8}), ((1, (4, 5)),))
        self.assertEqual(halving({(0, 0): 1, (2, 1): 1, (1, 0): 1, (1, 1): 1}), ((2, (2, 1)),))
        self.assertEqual(halving({(0, 0): 1, (2, 2): 1, (1, 1): 1, (5, 5): 1}), ((1, (1, 1)), (1, (2, 2))))
        self.assertEqual(spread_rose({(3, 5): 7}), Rose(2, 1, []))
        self.assertEqual(cost_rose({(3, 5): 7}, (1, (2, 5))), Rose(2, 1, [(7, 0), (-7, 0)]))
        self.assertEqual(better_place({(3, 5): 7}, (1, (2, 5)))[1], (3, 5))
        self.assertIs(never_worse(TRIANGLE, (1, (1, 1)), (1, (1, 1))), True)

    def check_roses(self, r, party, spot):
        point = point_of(spot)
        dear, cheap = check_pure(self, cost_rose, party, spot), check_pure(self, spread_rose, party)
        self.assertTrue(is_kept(MIRROR, dear) and is_kept(MIRROR, cheap))
        for row in critical(party, point)[::3] + [row_of(r, 2, 9)]:
            whole = tuple(int(part * spot[0]) for part in row)
            self.assertEqual(takes(dear, whole), in_stick(party, whole, point))
            self.assertEqual(takes(cheap, whole), cheapest(party, whole))
        return dear, cheap

    def test_roses_and_halves(self):
        r, seen = seeded(811), {True: 0, False: 0}
        for _ in range(200):
            party = any_party(r)
            spot = any_spot(r, party)
            point, whole = point_of(spot), sum(party.values())
            dear, cheap = self.check_roses(r, party, spot)
            told, better = check_pure(self, halves, party, spot), check_pure(self, better_place, party, spot)
            seen[told] += 1
            self.assertEqual(told, oracle_halves(party, point))
            self.assertEqual((told, told), (dear == cheap, better is None))
            if better is not None:
                row, place = better
                self.assertTrue(is_int_row(row, 2) and without_divisor(row) and place in party)
                self.assertGreater(2 * ahead_of(party, row, point, True), whole)
                self.assertLess(in_stick(party, row, place), in_stick(party, row, point))
            rose = mirrored(r)
            if told:
                self.assertIsNotNone(pulls(rose, party, spot))
        self.assertGreater(min(seen.values()), 50)

    def test_never_worse(self):
        r, seen = seeded(812), {True: 0, False: 0}
        for _ in range(250):
            party = any_party(r)
            one, other = any_spot(r, party), any_spot(r, party)
            if r.random() < 0.4 and lean(party, other) is not None:
                one = lean(party, other)
            told, row = check_pure(self, never_worse, party, one, other), check_pure(self, worse_row, party, one, other)
            seen[told] += 1
            self.assertEqual(told, row is None)
            self.assertEqual(told, never_slower(cost_rose(party, one), cost_rose(party, other)))
            if row is not None:
                self.assertTrue(without_divisor(row))
                self.assertGreater(in_stick(party, row, point_of(one)), in_stick(party, row, point_of(other)))
            else:
                rose = mirrored(r)
                self.assertLessEqual(value(cost(rose, party, one)), value(cost(rose, party, other)))
            if one[0] == other[0] == 1:
                gone = [trip(2, [((place[0] - spot[1][0], place[1] - spot[1][1]), party[place]) for place in party])
                        for spot in (one, other)]
                self.assertEqual(told, never_longer(MIRROR, gone[0], gone[1]))
        self.assertGreater(min(seen.values()), 50)

    def test_halving_or_fence(self):
        r, seen = seeded(813), {}
        for _ in range(300):
            party = any_party(r)
            whole = sum(party.values())
            told, wall = check_pure(self, halving, party), check_pure(self, fence, party)
            self.assertEqual(halving(dict(reversed(party.items()))), told)
            self.assertEqual(len(told) == 0, wall is not None)
            seen[len(told)] = seen.get(len(told), 0) + 1
            self.assertTrue(type(told) is tuple and list(told) == sorted(set(told)) and len(told) <= 2)
            for spot in told:
                self.assertTrue(oracle_halves(party, point_of(spot)))
            if len(told) == 2:
                one, other = [point_of(spot) for spot in told]
                middle = tuple((a + b) / 2 for a, b in zip(one, other))
                beyond = tuple(b + (b - a) / 1000 for a, b in zip(one, other))
                self.assertTrue(oracle_halves(party, middle))
                self.assertFalse(oracle_halves(party, beyond))
            if wall is not None:
                self.assertTrue(oracle_fence(party, wall))
                self.assertIs(is_fence(party, wall), True)
            for place in party:
                if 2 * party[place] >= whole:
                    self.assertIs(halves(party, (1, place)), True)
                self.assertEqual(halves(party, (1, place)), oracle_halves(party, place))
        self.assertGreater(min(seen.values()), 10)
        self.assertEqual(len(seen), 3)

    def test_mirrored_parties(self):
        r = seeded(814)
        for _ in range(50):
            party = {}
            for _ in range(r.randint(1, 4)):
                place, weight = row_of(r, 2, 5), r.randint(1, 3)
                party[place] = party[(1 - place[0], 4 - place[1])] = weight
            self.assertIs(halves(party, (2, (1, 4))), True)

    def test_judge(self):
        r, seen = seeded(815), 0
        while seen < 15:
            party = any_party(r, 3)
            told = fence(party)
            if told is not None:
                seen += 1
                check_judge(self, lambda thing: is_fence(party, thing), told, lambda thing: oracle_fence(party, thing))
        check_odd(self, lambda thing: is_fence(TRIANGLE, thing))
        self.assertIs(is_fence(TRIANGLE, ((1, (1, 0)), (1, (0, 1)), (1, (-1, -1)), (1, (0, 0)))), False)
        self.assertIs(is_fence(TRIANGLE, ((1, (1, 0)), (1, (-1, 0)), (1, (0, 0)))), False)
        self.assertIs(is_fence({(0, 0): 1}, ((1, (1, 0)), (1, (0, 1)), (1, (-1, -1)))), False)
        self.assertIs(is_fence({(0, 0): 1, (1, 0): 1, (0, 1): 1}, ((1, (1, 0)), (1, (0, 1)), (1, (-1, -1)))), True)

    def test_wrong(self):
        good = {"party": TRIANGLE, "spot": (2, (1, 0))}
        wrong = [("party", BAD_PARTIES, BadParty), ("spot", BAD_SPOTS, BadSpot)]
        for call in (cost_rose, halves, better_place, regret, regret_row, holds, stops, lean):
            check_refusals(self, call, good, wrong)
        check_refusals(self, are_stops, {**good, "thing": None}, wrong)
        for call in (spread_rose, halving, fence, least_regret, calm_spot, calm_papers):
            check_refusals(self, call, {"party": TRIANGLE}, wrong[:1])
        check_refusals(self, is_fence, {"party": TRIANGLE, "thing": None}, wrong[:1])
        check_refusals(self, are_calm, {"party": TRIANGLE, "ratio": None, "spot": None, "papers": None}, wrong[:1])
        for call in (never_worse, worse_row):
            check_refusals(self, call, {"party": TRIANGLE, "one": (1, (1, 1)), "other": (1, (0, 0))},
                           [wrong[0], ("one", BAD_SPOTS, BadSpot), ("other", BAD_SPOTS, BadSpot)])


def oracle_regret(party, point):
    """None if there is none; else the greatest ratio in sticks, from 1 on."""
    found = Fraction(1)
    for row in critical(party, point):
        here, least = in_stick(party, row, point), cheapest(party, row)
        if least == 0 and here > 0:
            return None
        if least > 0:
            found = max(found, Fraction(here) / least)
    return found


def oracle_papers(party, ratio, thing):
    if type(thing) is not tuple or len(thing) > 3:
        return False
    for paper in thing:
        if type(paper) is not tuple or len(paper) != 2 or not is_int(paper[0]) or paper[0] < 1:
            return False
        if not is_int_row(paper[1], 2) or paper[1] == (0, 0):
            return False
    if thing == ():
        return ratio == 1
    together = sum(weight * cheapest(party, row) for weight, row in thing)
    if together == 0:
        return False
    # The least sum is at a crossing of two lines through places along which one of the sticks does not change.
    lines, points = [(row, inner(row, place)) for _, row in thing for place in party], list(party)
    for one, here in lines:
        for other, there in lines:
            turn = one[0] * other[1] - one[1] * other[0]
            if turn != 0:
                points.append((Fraction(here * other[1] - one[1] * there, turn), Fraction(one[0] * there - here * other[0], turn)))
    return min(sum(weight * in_stick(party, row, point) for weight, row in thing) for point in points) >= ratio * together


class RegretsTest(unittest.TestCase):
    def test_by_hand(self):
        self.assertEqual(regret(TRIANGLE, (1, (0, 0))), (2, 1))
        self.assertEqual(least_regret(TRIANGLE), (4, 3))
        self.assertEqual((regret({(1, 1): 3}, (1, (1, 1))), regret({(1, 1): 3}, (1, (0, 1)))), ((1, 1), None))
        self.assertEqual(regret_row({(1, 1): 3}, (1, (0, 1))), ((1, 0), (1, 1)))
        self.assertIsNone(regret_row({(1, 1): 3}, (1, (1, 1))))
        self.assertEqual((least_regret({(1, 1): 3}), calm_spot({(1, 1): 3}), calm_papers({(1, 1): 3})), ((1, 1), (1, (1, 1)), ()))
        line = {(0, 0): 1, (2, 2): 1, (4, 4): 1}
        self.assertEqual((regret(line, (1, (4, 4))), regret(line, (1, (1, 2))), regret(line, (1, (6, 6)))), ((3, 2), None, (3, 1)))

    def test_regret(self):
        r, seen = seeded(821), {}
        for _ in range(200):
            party = any_party(r)
            spot = any_spot(r, party)
            point = point_of(spot)
            told, shown = check_pure(self, regret, party, spot), check_pure(self, regret_row, party, spot)
            kind = told if told in (None, (1, 1)) else "more"
            seen[kind] = seen.get(kind, 0) + 1
            expected = oracle_regret(party, point)
            self.assertEqual(None if told is None else value(told), expected)
            self.assertEqual(told == (1, 1), halves(party, spot))
            self.assertEqual(told == (1, 1), shown is None)
            if shown is not None:
                row, place = shown
                self.assertTrue(is_int_row(row, 2) and without_divisor(row) and place in party)
                here, there = in_stick(party, row, point), in_stick(party, row, place)
                self.assertGreater(here, there)
                self.assertEqual(there if told is None else here, 0 if told is None else value(told) * there)
            if told is not None:
                rose = mirrored(r)
                least = value(cost(rose, party, best_spot(rose, party)))
                self.assertLessEqual(value(cost(rose, party, spot)), value(told) * least)
        self.assertGreater(min(seen.values()), 10)
        self.assertEqual(len(seen), 3)

    def test_least_regret(self):
        r = seeded(822)
        for _ in range(120):
            party = any_party(r)
            least, spot, papers = (check_pure(self, call, party) for call in (least_regret, calm_spot, calm_papers))
            self.assertEqual(calm_papers(dict(reversed(party.items()))), papers)
            self.assertEqual(value(least), oracle_regret(party, point_of(spot)))
            self.assertTrue(oracle_papers(party, value(least), papers))
            self.assertIs(are_calm(party, least, spot, papers), True)
            self.assertEqual(least == (1, 1), len(halving(party)) > 0)
            whole = sum(party.values())
            mean = tuple(Fraction(sum(weight * place[k] for place, weight in party.items()), whole) for k in (0, 1))
            told = regret(party, spot_of(mean))
            self.assertTrue(value(least) <= value(told) < 2)
            for _ in range(5):
                other = oracle_regret(party, point_of(any_spot(r, party)))
                self.assertTrue(other is None or other >= value(least))
        for _ in range(5):
            party = {row_of(r, 2, NINE): r.randint(1, NINE) for _ in range(6)}
            self.assertIs(are_calm(party, least_regret(party), calm_spot(party), calm_papers(party)), True)

    def test_judge(self):
        r, seen = seeded(823), [0, 0]
        while min(seen) < 8:
            party = any_party(r, 4)
            least, spot, papers = least_regret(party), calm_spot(party), calm_papers(party)
            if len(party) > 5 or seen[papers == ()] > 10:
                continue
            seen[papers == ()] += 1
            check_judge(self, lambda thing: are_calm(party, thing, spot, papers), least, lambda thing: False if (
                not is_int_row(thing, 2) or thing[1] < 1 or math.gcd(*thing) != 1) else thing == least)
            check_judge(self, lambda thing: are_calm(party, least, thing, papers), spot, lambda thing: False if (
                thing[0] < 1 or math.gcd(thing[0], *thing[1]) != 1) else oracle_regret(party, point_of(thing)) == value(least))
            check_judge(self, lambda thing: are_calm(party, least, spot, thing), papers,
                        lambda thing: oracle_papers(party, value(least), thing))
            # A greater ratio has no papers, a lesser one no spot.
            above, below = least
            self.assertIs(are_calm(party, (2 * above + 1, 2 * below) if math.gcd(2 * above + 1, 2 * below) == 1 else (9, 1), spot, papers), False)
            self.assertIs(are_calm(party, (1, 1), spot, papers), least == (1, 1))
        for k, right in enumerate([least_regret(TRIANGLE), calm_spot(TRIANGLE), calm_papers(TRIANGLE)]):
            three = [least_regret(TRIANGLE), calm_spot(TRIANGLE), calm_papers(TRIANGLE)]
            check_odd(self, lambda thing: are_calm(TRIANGLE, *three[:k], thing, *three[k + 1:]), [right])
        self.assertIs(are_calm({(1, 1): 1}, (1, 1), (1, (1, 1)), ((1, (1, 0)),)), False)
        two = {(0, 0): 1, (1, 0): 1}
        self.assertIs(are_calm(two, (1, 1), (1, (0, 0)), ((1, (1, 0)),)), True)
        self.assertIs(are_calm(two, (1, 1), (1, (0, 0)), ((1, (0, 1)),)), False)
        self.assertIs(are_calm(two, (1, 1), (1, (0, 0)), ((1, (1, 0)), (1, (0, 0)))), False)
        self.assertIs(are_calm(two, (1, 1), (1, (0, 0)), ((1, (1, 0)), (1, (0, 1)), (2, (2, 0)))), True)
        self.assertIs(are_calm(two, (1, 1), (1, (0, 0)), ((1, (1, 0)), (1, (0, 1)), (2, (2, 0)), (1, (3, 0)))), False)


def oracle_stops(party, spot, thing):
    if type(thing) is not tuple or len(thing) not in (3, 4) or not all(is_int_row(row, 2) and row != (0, 0) for row in thing):
        return False
    point = point_of(spot)
    if not all(2 * ahead_of(party, row, point, False) > sum(party.values()) for row in thing):
        return False
    ahead = [tuple(turn) for row in thing for turn in [row, (-row[1], row[0]), (-row[0], -row[1]), (row[1], -row[0])]]
    ahead += [(a[0] + b[0], a[1] + b[1]) for a in ahead for b in ahead if a != b]
    return all(any(inner(row, step) < 0 for row in thing) for step in ahead if step != (0, 0))


class FrontsTest(unittest.TestCase):
    def test_by_hand(self):
        self.assertIs(holds(TRIANGLE, (1, (1, 1))), True)
        self.assertIs(are_stops(TRIANGLE, (1, (1, 1)), ((-1, 0), (0, -1), (1, 1))), True)
        self.assertIs(are_stops(TRIANGLE, (1, (1, 1)), ((-1, 0), (0, -1), (1, 0))), False)
        self.assertIsNone(lean(TRIANGLE, (1, (1, 1))))
        self.assertEqual((holds({(2, 3): 1}, (1, (2, 3))), lean({(2, 3): 1}, (1, (2, 2))), stops({(2, 3): 1}, (1, (2, 2)))),
                         (True, (1, (2, 3)), None))
        equal, heavy = {(0, 0): 2, (4, 2): 2}, {(0, 0): 2, (4, 2): 3}
        for spot in [(1, (0, 0)), (1, (4, 2)), (1, (2, 1)), (2, (1, 0)), (1, (8, 4))]:
            self.assertIs(holds(equal, spot), False)
            self.assertIs(holds(heavy, spot), spot == (1, (4, 2)))

    def test_stops_or_lean(self):
        r, seen = seeded(831), {}
        for _ in range(300):
            party = any_party(r)
            spot = any_spot(r, party)
            told, off = check_pure(self, stops, party, spot), check_pure(self, lean, party, spot)
            self.assertEqual(stops(dict(reversed(party.items())), spot), told)
            self.assertNotEqual(told is None, off is None)
            self.assertIs(holds(party, spot), off is None)
            key = 0 if told is None else len(told)
            seen[key] = seen.get(key, 0) + 1
            if told is not None:
                self.assertTrue(oracle_stops(party, spot, told))
                self.assertIs(are_stops(party, spot, told), True)
                self.assertTrue(all(without_divisor(row) for row in told))
            else:
                self.assertNotEqual(off, spot)
                self.assertIs(never_worse(party, off, spot), True)
                point_of(off)
            best = halving(party)
            if len(best) == 1:
                self.assertIs(holds(party, best[0]), True)
            outside = (1, (max(place[0] for place in party) + 1, r.randint(-9, 9)))
            self.assertIs(holds(party, outside), False)
        self.assertGreater(min(seen.values()), 5)
        self.assertEqual(sorted(seen), [0, 3, 4])

    def test_held_spots_are_never_beaten(self):
        r = seeded(832)
        for _ in range(100):
            party = any_party(r)
            spot = any_spot(r, party)
            if holds(party, spot):
                for _ in range(5):
                    other = any_spot(r, party)
                    if other != spot:
                        self.assertIs(never_worse(party, other, spot), False)

    def test_judge(self):
        r, seen = seeded(833), 0
        while seen < 20:
            party = any_party(r, 4)
            spot = any_spot(r, party)
            told = stops(party, spot)
            if told is not None and len(told) == 3:
                seen += 1
                check_judge(self, lambda thing: are_stops(party, spot, thing), told, lambda thing: oracle_stops(party, spot, thing))
        check_odd(self, lambda thing: are_stops(TRIANGLE, (1, (1, 1)), thing))
        self.assertIs(are_stops({(0, 0): 1}, (1, (0, 0)), ((1, 0), (-1, 0), (0, 1), (0, -1))), True)
        self.assertIs(are_stops({(0, 0): 1}, (1, (0, 0)), ((1, 0), (-1, 0), (0, 1), (0, 1))), False)
        self.assertIs(are_stops({(0, 0): 1}, (1, (0, 0)), ((1, 0), (-1, 0), (0, 1))), False)
        self.assertIs(are_stops({(0, 0): 1}, (1, (0, 0)), ((1, 0), (-1, 0), (0, 1), (0, -1), (1, 1))), False)


if __name__ == "__main__":
    unittest.main()
