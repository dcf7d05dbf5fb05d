"""[100] Nets, [101] flows, [102] straight paths, [103] detours, [104] one more tie."""

import itertools
import unittest
from fractions import Fraction

from pacerose.claims import never_longer
from pacerose.detours import are_detour, detour, detour_rose, detour_shares, full_net, net_detour, worst_tie
from pacerose.errors import (BadFlow, BadKind, BadNet, BadPair, BadPath, BadPlace, BadPlaces, BadRose, BadSize, BadTie, BadTies,
                             BadTrip, NoPath, OtherPlaces, OtherSize, TooMany)
from pacerose.flows import flow_trip, is_flow, is_net_bar, is_net_shares, net_bar, net_shares, surely_within
from pacerose.kinds import Kind, mirror_kind, plain_kind
from pacerose.moreties import are_helpless, helping, helpless, helps, is_helping
from pacerose.nets import (Net, are_quickest, path_trip, paths, quick_paths, quickest, with_tie, without_tie)
from pacerose.roses import Rose, is_kept
from pacerose.straights import (bending_rose, follow_bar, follow_paths, follows, needless, straight_path, trimmed)
from pacerose.sums import rose_kept
from pacerose.trips import total, trip, trip_sum, trip_times
from tests.helpers import (BAD_KINDS, BAD_ROSES, BAD_SIZES, NINE, ODD, QUARTER, any_rose, check_judge, check_odd, check_pure,
                           check_refusals, fails, is_int, is_int_row, kinds_of, row_of, seeded, times, value)
from tests.test_claims import oracle_shares
from tests.test_facts import takes_all
from tests.test_logs import as_ratio
from tests.test_trips import BAD_TRIPS, TRIP, any_trip

PLACES = [(0, 0), (2, 0), (1, 1), (4, 0)]
NET = Net(2, PLACES, [(0, 1), (1, 3), (0, 2), (2, 3), (3, 0)])
BAD_NETS = [None, 5, "net", (2, PLACES, []), Net, {}, object(), Rose(2, 1, [])]
BAD_NUMBERS_OF_PLACES = [-1, 4, True, False, 1.0, "1", None, (1,), [1], NINE]
BAD_PAIRS_OF_PLACES = [None, 5, (), (0,), (0, 1, 2), [0, 1], (0, 0), (0, 4), (-1, 0), (True, 0), (0, True), (0, 1.0), "01", (None, 0)]
TWELVE = [(i, j) for i in range(4) for j in range(4) if i != j]
MANY = {"most": 12}


def any_places(r, size, many):
    """Often some of them on one line, and others beside each other."""
    line, found = row_of(r, size, 2), []
    while len(found) < many:
        place = row_of(r, size, r.choice([1, 2, 3]) + (2 if size == 1 else 0))
        if r.random() < 0.3:
            place = times(r.randint(-2, 2), line)
        if place not in found:
            found.append(place)
    return found


def any_net(r, size, places=None):
    places = any_places(r, size, r.randint(2, 6)) if places is None else places
    pairs = [(i, j) for i in range(len(places)) for j in range(len(places)) if i != j]
    return Net(size, places, r.sample(pairs, r.randint(0, min(12, len(pairs)))))


def any_problem(r):
    kind = r.choice(kinds_of(r.randint(1, 3)))
    net = any_net(r, kind.size)
    first, last = r.sample(range(len(net.places)), 2)
    return kind, net, first, last


def step_of(net, first, last):
    return tuple(b - a for a, b in zip(net.places[first], net.places[last]))


def trip_along(net, path):
    return trip(net.size, [(step_of(net, i, j), 1) for i, j in zip(path, path[1:])])


def oracle_paths(net, first, last):
    many, found = len(net.places), []
    for length in range(many):
        for between in itertools.permutations([k for k in range(many) if k not in (first, last)], length):
            path = (first, *between, last) if first != last else (first,)
            if all(tie in net.ties for tie in zip(path, path[1:])) and path not in found:
                found.append(path)
    return sorted(found)


def oracle_path(net, thing):
    if type(thing) is not tuple or not thing or not all(is_int(k) and 0 <= k < len(net.places) for k in thing):
        return False
    return len(set(thing)) == len(thing) and all(tie in net.ties for tie in zip(thing, thing[1:]))


class NetsTest(unittest.TestCase):
    def test_by_hand(self):
        self.assertEqual((NET.size, NET.places, NET.ties), (2, tuple(PLACES), ((0, 1), (0, 2), (1, 3), (2, 3), (3, 0))))
        self.assertEqual(list(vars(NET)), ["size", "places", "ties"])
        self.assertEqual(paths(NET, 0, 3), [(0, 1, 3), (0, 2, 3)])
        self.assertEqual((paths(NET, 0, 0), paths(NET, 1, 2), paths(NET, 2, 0)), ([(0,)], [(1, 3, 0, 2)], [(2, 3, 0)]))
        self.assertEqual(path_trip(NET, (0, 1, 3)), (((1, 0), 4),))
        self.assertEqual(path_trip(NET, (2,)), ())
        rose = Rose(2, 2, [(1, 0), (0, 3)])
        self.assertEqual(quickest(NET, rose, 0), {0: (0, 1), 1: (1, 1), 2: (3, 2), 3: (2, 1)})
        self.assertEqual(quick_paths(NET, rose, 0), {0: (0,), 1: (0, 1), 2: (0, 2), 3: (0, 1, 3)})
        lone = Net(1, [(5,)], [])
        self.assertEqual((quickest(lone, Rose(1, 1, [(1,)]), 0), paths(lone, 0, 0)), ({0: (0, 1)}, [(0,)]))
        self.assertIs(are_quickest(lone, Rose(1, 1, [(1,)]), 0, {0: (0, 1)}, {0: (0,)}), True)

    def test_equal(self):
        self.assertTrue(NET == Net(2, tuple(PLACES), list(reversed(NET.ties)) + [(0, 1)]))
        self.assertFalse(NET == Net(2, PLACES, NET.ties[1:]))
        self.assertFalse(Net(1, [(0,), (1,)], []) == Net(1, [(1,), (0,)], []))
        self.assertFalse(NET == (2, tuple(PLACES), NET.ties))
        self.assertEqual(len(Net(2, PLACES, TWELVE * 2).ties), 12)

    def test_wrong_nets(self):
        bad_places = [None, 5, "ab", {}, [], (), [(0, 0), (0, 0)], [(0,)], [(0, 0, 0)], [[0, 0]], [(True, 0)], [(1.0, 0)], [None],
                      [(k, 0) for k in range(7)], (0, 0)]
        bad_ties = [None, 5, "ab", {}, (0, 1)] + [[bad] for bad in BAD_PAIRS_OF_PLACES] + [[(0, 1), bad] for bad in BAD_PAIRS_OF_PLACES]
        check_refusals(self, Net, {"size": 2, "places": PLACES, "ties": [(0, 1)]}, [
            ("size", BAD_SIZES, BadSize), ("places", bad_places, BadPlaces), ("ties", bad_ties, BadTies)])
        five = [(k, 0) for k in range(5)]
        twelve = [(i, j) for i in range(5) for j in range(5) if i != j][:12]
        Net(2, five, twelve + twelve)
        fails(self, (TooMany, MANY), Net, 2, five, [*twelve, (4, 3)])
        fails(self, BadTies, Net, 2, five, [*twelve, (4, 3), (4, 4)])
        check_refusals(self, full_net, {"size": 2, "places": PLACES}, [("size", BAD_SIZES, BadSize), ("places", bad_places, BadPlaces)])
        self.assertEqual(full_net(2, PLACES), Net(2, PLACES, TWELVE))
        self.assertEqual(full_net(3, [(1, 2, 3)]), Net(3, [(1, 2, 3)], []))
        fails(self, (TooMany, MANY), full_net, 2, five)

    def test_paths(self):
        r = seeded(1001)
        for _ in range(150):
            net = any_net(r, r.randint(1, 3))
            for first in range(len(net.places)):
                for last in range(len(net.places)):
                    told = check_pure(self, paths, net, first, last)
                    self.assertEqual(told, oracle_paths(net, first, last))
                    for path in told[:3]:
                        self.assertEqual(path_trip(net, path), trip_along(net, path))

    def test_quickest(self):
        r = seeded(1002)
        for _ in range(150):
            net = any_net(r, r.randint(1, 3))
            rose, first = any_rose(r, net.size, 3), r.randrange(len(net.places))
            times_told, by_paths = check_pure(self, quickest, net, rose, first), check_pure(self, quick_paths, net, rose, first)
            self.assertEqual(list(times_told), [k for k in range(len(net.places)) if oracle_paths(net, first, k)])
            self.assertEqual(list(by_paths), list(times_told))
            for last, path in by_paths.items():
                least = min(takes_all(rose, trip_along(net, other)) for other in oracle_paths(net, first, last))
                self.assertEqual((value(times_told[last]), takes_all(rose, trip_along(net, path))), (least, least))
            self.assertIs(are_quickest(net, rose, first, times_told, by_paths), True)
            self.assertIs(are_quickest(net, rose, first, dict(reversed(times_told.items())), by_paths), True)
            self.check_more_ties(r, net, rose, first, times_told)

    def check_more_ties(self, r, net, rose, first, known):
        """With a tie more the least time is the lesser of that without it and of the way by it."""
        i, j = r.sample(range(len(net.places)), 2)
        if len(net.ties) == 12:
            return
        wide = with_tie(net, (i, j))
        for last, time in quickest(wide, rose, first).items():
            onward = quickest(net, rose, j)
            by_tie = [value(known[i]) + takes_all(rose, trip(net.size, [(step_of(net, i, j), 1)])) + value(onward[last])
                      ] if i in known and last in onward else []
            self.assertEqual(value(time), min(by_tie + ([value(known[last])] if last in known else [])))

    def oracle_quickest(self, net, rose, first, told, by_paths):
        if type(told) is not dict or type(by_paths) is not dict or set(told) != set(by_paths) or first not in told:
            return False
        if not all(is_int(last) for last in by_paths):
            return False
        for last in told:
            if not is_int(last) or not 0 <= last < len(net.places) or not oracle_path(net, by_paths[last]):
                return False
            path = by_paths[last]
            if (path[0], path[-1]) != (first, last) or type(told[last]) is not tuple or told[last] != total(rose, trip_along(net, path)):
                return False
            if not is_int_row(told[last], 2):
                return False
        return all(i not in told or (j in told and value(told[j]) <= value(told[i]) + takes_all(rose, trip_along(net, (i, j))))
                   for i, j in net.ties)

    def number_keys(self, thing):
        """Values like a dict from numbers, but for a key or a value."""
        for key in thing:
            yield {other: thing[other] for other in thing if other != key}
            yield {(bool(other) if other == key and other < 2 else other if other != key else str(other)): thing[other] for other in thing}
            yield {(float(other) if other == key else other): thing[other] for other in thing}
            for part in [None, (), 5, list(thing[key]), (*thing[key], 0), thing[key][1:], tuple(map(float, thing[key]))]:
                yield {**thing, key: part}
            yield {**thing, key: (thing[key][0] + 1, *thing[key][1:])}
        yield from [list(thing.items()), None, {**thing, 6: (0, 1)}, {**thing, -1: (0, 1)}, {**thing, None: (0, 1)}, {}]

    def test_quickest_judge(self):
        r = seeded(1003)
        for _ in range(30):
            net = any_net(r, r.randint(1, 3))
            rose, first = any_rose(r, net.size, 3), r.randrange(len(net.places))
            told, by_paths = quickest(net, rose, first), quick_paths(net, rose, first)
            for near in self.number_keys(told):
                self.assertIs(are_quickest(net, rose, first, near, by_paths), self.oracle_quickest(net, rose, first, near, by_paths), near)
            for near in self.number_keys(by_paths):
                self.assertIs(are_quickest(net, rose, first, told, near), self.oracle_quickest(net, rose, first, told, near), near)
            # Slow paths, told rightly.
            slow = {last: r.choice(oracle_paths(net, first, last)) for last in told}
            slow_times = {last: total(rose, trip_along(net, path)) for last, path in slow.items()}
            self.assertIs(are_quickest(net, rose, first, slow_times, slow), slow_times == told)
            for last in told:
                if last != first:
                    less, less_paths = ({key: table[key] for key in table if key != last} for table in (told, by_paths))
                    self.assertIs(are_quickest(net, rose, first, less, less_paths), False)
                    self.assertIs(are_quickest(net, rose, first, told, less_paths), False)
                    self.assertIs(are_quickest(net, rose, first, less, by_paths), False)
        rose = Rose(2, 1, [(1, 0)])
        half = Net(2, PLACES, [(0, 1)])
        self.assertIs(are_quickest(half, rose, 0, {0: (0, 1), 1: (2, 1)}, {0: (0,), 1: (0, 1)}), True)
        self.assertIs(are_quickest(half, rose, 0, {0: (0, 1), 1: (2, 1)}, {0: (0,), 1: (0, 1), 2: (2,)}), False)
        self.assertIs(are_quickest(half, rose, 0, {0: (0, 1), 1: (2, 1)}, {0: (0,), 2: (0, 1)}), False)
        self.assertIs(are_quickest(half, rose, 0, {0: (0, 1), 2: (0, 1)}, {0: (0,), 2: (2,)}), False)
        check_odd(self, lambda thing: are_quickest(NET, rose, 0, thing, quick_paths(NET, rose, 0)))
        check_odd(self, lambda thing: are_quickest(NET, rose, 0, quickest(NET, rose, 0), thing))
        check_odd(self, lambda thing: are_quickest(NET, rose, 0, thing, thing))

    def test_ties(self):
        self.assertEqual(with_tie(NET, (3, 1)), Net(2, PLACES, [*NET.ties, (3, 1)]))
        self.assertEqual(with_tie(NET, (0, 1)), NET)
        self.assertEqual(without_tie(NET, (3, 0)), Net(2, PLACES, NET.ties[:-1]))
        full = full_net(2, PLACES)
        self.assertEqual(with_tie(full, (0, 1)), full)
        five = Net(2, [*PLACES, (9, 9)], TWELVE)
        fails(self, (TooMany, MANY), with_tie, five, (4, 0))
        fails(self, BadTie, with_tie, five, (5, 0))
        check_refusals(self, with_tie, {"net": NET, "tie": (1, 0)}, [("net", BAD_NETS, BadNet), ("tie", BAD_PAIRS_OF_PLACES, BadTie)])
        check_refusals(self, without_tie, {"net": NET, "tie": (0, 1)}, [
            ("net", BAD_NETS, BadNet), ("tie", [*BAD_PAIRS_OF_PLACES, (1, 0), (False, 1), (0, True)], BadTie)])

    def test_wrong(self):
        places = [("first", BAD_NUMBERS_OF_PLACES, BadPlace), ("last", BAD_NUMBERS_OF_PLACES, BadPlace)]
        check_refusals(self, paths, {"net": NET, "first": 0, "last": 0}, [("net", BAD_NETS, BadNet), *places])
        bad = [None, 5, (), [], [0, 1], (0, 0), (1, 0), (0, 1, 0), (0, 1, 3, 0), (0, 2, 3, 0, 1), (4,), (True,), (0, True), (0, 1.0), "01", (0, 3), ((0, 1),)]
        check_refusals(self, path_trip, {"net": NET, "path": (0, 1)}, [("net", BAD_NETS, BadNet), ("path", bad, BadPath)])
        wrong = [("net", BAD_NETS, BadNet), ("rose", BAD_ROSES, BadRose), ("first", BAD_NUMBERS_OF_PLACES, BadPlace)]
        good = {"net": NET, "rose": Rose(2, 1, []), "first": 0}
        other = ("rose", [Rose(1, 1, []), Rose(3, 1, [(1, 0, 0)])], OtherSize)
        for call in (quickest, quick_paths):
            check_refusals(self, call, good, [*wrong, other])
        check_refusals(self, are_quickest, {**good, "times": None, "by_paths": None}, [*wrong, other])


def oracle_flow(net, first, last, thing):
    if type(thing) is not tuple or len(thing) != 2 or not is_int(thing[0]) or thing[0] < 1 or type(thing[1]) is not dict:
        return False
    left = {first: -thing[0], last: thing[0]}
    for tie, amount in thing[1].items():
        if not is_int_row(tie, 2) or tie not in net.ties or not is_int(amount) or amount < 1:
            return False
        left[tie[0]] = left.get(tie[0], 0) + amount
        left[tie[1]] = left.get(tie[1], 0) - amount
    return not any(left.values())


def trip_in_flow(net, flow):
    return trip(net.size, [(step_of(net, i, j), amount) for (i, j), amount in flow[1].items()])


def oracle_net_shares(kind, net, first, last, gone, thing):
    if type(thing) is not tuple or len(thing) != 2 or not oracle_flow(net, first, last, thing[0]):
        return False
    return oracle_shares(kind, trip_in_flow(net, thing[0]), trip_times(net.size, gone, thing[0][0]), thing[1])


def oracle_net_bar(kind, net, first, last, gone, thing):
    if type(thing) is not Rose or not is_kept(kind, thing):
        return False
    return all(takes_all(thing, trip_along(net, path)) > takes_all(thing, gone) for path in oracle_paths(net, first, last))


KIND_FIRST = [("kind", BAD_KINDS, BadKind), ("net", BAD_NETS, BadNet), ("first", BAD_NUMBERS_OF_PLACES, BadPlace),
              ("last", BAD_NUMBERS_OF_PLACES, BadPlace)]
OTHER_KIND = ("kind", [plain_kind(1), mirror_kind(3)], OtherSize)
GOOD = {"kind": plain_kind(2), "net": NET, "first": 0, "last": 3}


def check_behind_sizes(test, call, good, joined=True):
    """Behind the errors of the parameters: sizes, then equal places, then, if joined, that there is no path."""
    split = {**good, "net": Net(2, PLACES, [(0, 1)])}
    for net in (good["net"], split["net"]):
        fails(test, OtherSize, call, *{**good, "net": net, "kind": plain_kind(3), "last": good["first"]}.values())
        fails(test, BadPair, call, *{**good, "net": net, "last": good["first"]}.values())
    if joined:
        fails(test, NoPath, call, *split.values())
    else:
        call(*split.values())


class FlowsTest(unittest.TestCase):
    def test_by_hand(self):
        both = (2, {(0, 1): 1, (1, 3): 1, (0, 2): 1, (2, 3): 1})
        self.assertIs(is_flow(NET, 0, 3, both), True)
        self.assertEqual(flow_trip(NET, 0, 3, both), (((1, 0), 4), ((1, 1), 1), ((3, -1), 1)))
        self.assertIs(is_flow(NET, 0, 3, (1, {(0, 1): 2, (1, 3): 2, (3, 0): 1})), True)
        self.assertIs(is_flow(NET, 0, 3, (2, {(0, 1): 1, (1, 3): 1})), False)
        self.assertIs(is_flow(NET, 0, 3, (1, {(0, 1): 1, (1, 3): 1, (0, 2): 0})), False)
        self.assertIs(is_flow(NET, 0, 3, (1, {(0, 3): 1})), False)
        straight = (((1, 0), 4),)
        self.assertIs(surely_within(plain_kind(2), NET, 0, 3, straight), True)
        self.assertIs(is_net_shares(plain_kind(2), NET, 0, 3, straight, ((1, {(0, 1): 1, (1, 3): 1}), (1, ((4,),)))), True)
        self.assertIs(surely_within(plain_kind(2), NET, 0, 3, ()), False)
        self.assertIs(is_net_bar(plain_kind(2), NET, 0, 3, (((0, 1), 1),), Rose(2, 1, [(1, 0)])), True)

    def test_two_paths_share(self):
        """Neither path alone is always within the trip, but one of both is."""
        net = Net(2, [(0, 0), (1, 0), (0, 1), (1, 1)], [(0, 1), (1, 3), (0, 2), (2, 3)])
        mirrored = Net(2, [(0, 0), (2, 2), (2, -2), (4, 0)], [(0, 1), (1, 3), (0, 2), (2, 3)])
        self.assertIs(surely_within(plain_kind(2), net, 0, 3, (((0, 1), 1), ((1, 0), 1))), True)
        kind = Kind(2, [((0, 1), (1, 0))])
        wide = Net(2, [(0, 0), (3, 0), (0, 3), (3, 3)], [(0, 1), (0, 2), (1, 3), (2, 3)])
        gone = (((0, 1), 6),)
        self.assertEqual(surely_within(kind, wide, 0, 3, gone), net_bar(kind, wide, 0, 3, gone) is None)
        self.assertIs(surely_within(mirror_kind(2), mirrored, 0, 3, (((1, -1), 2), ((1, 1), 2))), True)

    def test_shares_or_bar(self):
        r, seen, some = seeded(1011), {True: 0, False: 0}, 0
        for _ in range(500):
            kind, net, first, last = any_problem(r)
            known = oracle_paths(net, first, last)
            if not known:
                continue
            gone = any_trip(r, net.size, 2, r.randint(0, 3))
            if r.random() < 0.5:
                gone = trip_along(net, r.choice(known))
                if r.random() < 0.6:
                    gone = trip_sum(net.size, gone, any_trip(r, net.size, 2, 1))
                elif len(known) > 1:
                    gone = trip_sum(net.size, trip_along(net, known[0]), trip_along(net, known[1]))
            told, rose = check_pure(self, net_shares, kind, net, first, last, gone), check_pure(self, net_bar, kind, net, first, last, gone)
            self.assertNotEqual(told is None, rose is None)
            self.assertIs(surely_within(kind, net, first, last, gone), rose is None)
            seen[rose is None] += 1
            if rose is None:
                some += not any(never_longer(kind, trip_along(net, path), gone) for path in known)
                self.assertTrue(oracle_net_shares(kind, net, first, last, gone, told))
                self.assertIs(is_net_shares(kind, net, first, last, gone, told), True)
                self.assertEqual(flow_trip(net, first, last, told[0]), trip_in_flow(net, told[0]))
                rose = rose_kept(kind, any_rose(r, kind.size, 3))
                self.assertLessEqual(min(takes_all(rose, trip_along(net, path)) for path in known), takes_all(rose, gone))
            else:
                self.assertTrue(oracle_net_bar(kind, net, first, last, gone, rose))
                self.assertIs(is_net_bar(kind, net, first, last, gone, rose), True)
                for near in [Rose(net.size, 1, []), any_rose(r, net.size, 2), rose_kept(kind, any_rose(r, net.size, 2)), rose.rows]:
                    self.assertIs(is_net_bar(kind, net, first, last, gone, near), oracle_net_bar(kind, net, first, last, gone, near))
        self.assertGreater(min(seen.values()), 60)

    def test_judges(self):
        r, seen = seeded(1012), 0
        while seen < 15:
            kind, net, first, last = any_problem(r)
            known = oracle_paths(net, first, last)
            if not known or len(kind) > 4:
                continue
            gone = trip_sum(net.size, trip_along(net, known[0]), any_trip(r, net.size, 2, r.randint(0, 1)))
            told = net_shares(kind, net, first, last, gone)
            seen += 1
            check_judge(self, lambda thing: is_flow(net, first, last, thing), told[0], lambda thing: oracle_flow(net, first, last, thing))
            check_judge(self, lambda thing: is_net_shares(kind, net, first, last, gone, thing), told,
                        lambda thing: oracle_net_shares(kind, net, first, last, gone, thing))
        check_odd(self, lambda thing: is_flow(NET, 0, 3, thing))
        check_odd(self, lambda thing: is_net_shares(plain_kind(2), NET, 0, 3, TRIP, thing))
        check_odd(self, lambda thing: is_net_bar(plain_kind(2), NET, 0, 3, (((0, 1), 1),), thing), [Rose(2, 1, [(1, 0)])])

    def test_great_numbers(self):
        r = seeded(1013)
        for _ in range(5):
            net = Net(2, [row_of(r, 2, NINE) for _ in range(5)], [(0, 1), (1, 4), (0, 2), (2, 4), (1, 2), (3, 4)])
            gone = any_trip(r, 2, NINE, 3)
            told, rose = net_shares(mirror_kind(2), net, 0, 4, gone), net_bar(mirror_kind(2), net, 0, 4, gone)
            self.assertTrue(oracle_net_shares(mirror_kind(2), net, 0, 4, gone, told) if rose is None else
                            oracle_net_bar(mirror_kind(2), net, 0, 4, gone, rose))

    def test_wrong(self):
        good = {"net": NET, "first": 0, "last": 3, "thing": None}
        check_refusals(self, is_flow, good, KIND_FIRST[1:])
        fails(self, BadPair, is_flow, NET, 1, 1, None)
        flows = [None, 5, (1, {}), (1, {(0, 1): 1}), (1, {(0, 1): 1, (1, 3): True}), [1, {(0, 1): 1, (1, 3): 1}]]
        good = {"net": NET, "first": 0, "last": 3, "flow": (1, {(0, 1): 1, (1, 3): 1})}
        check_refusals(self, flow_trip, good, [*KIND_FIRST[1:], ("flow", flows, BadFlow)])
        fails(self, BadPair, flow_trip, NET, 1, 1, None)
        for call in (net_shares, net_bar, surely_within):
            check_refusals(self, call, {**GOOD, "trip": TRIP}, [*KIND_FIRST, ("trip", BAD_TRIPS, BadTrip), OTHER_KIND])
            check_behind_sizes(self, call, {**GOOD, "trip": TRIP})
        for call in (is_net_shares, is_net_bar):
            check_refusals(self, call, {**GOOD, "trip": TRIP, "thing": None}, [*KIND_FIRST, ("trip", BAD_TRIPS, BadTrip), OTHER_KIND])
            check_behind_sizes(self, call, {**GOOD, "trip": TRIP, "thing": None})


def straight_trip(net, first, last):
    return trip(net.size, [(step_of(net, first, last), 1)])


def oracle_straight(net, first, last):
    found = [path for path in oracle_paths(net, first, last) if trip_along(net, path) == straight_trip(net, first, last)]
    return found[0] if found else None


def oracle_needless(net):
    return [tie for tie in net.ties if oracle_straight(Net(net.size, net.places, [other for other in net.ties if other != tie]), *tie)]


class StraightsTest(unittest.TestCase):
    def test_by_hand(self):
        self.assertEqual(straight_path(NET, 0, 3), (0, 1, 3))
        self.assertEqual(straight_path(NET, 0, 2), (0, 2))
        self.assertEqual(straight_path(NET, 2, 0), None)
        self.assertIsNone(bending_rose(mirror_kind(2), NET, 0, 3))
        line = Net(1, [(0,), (1,), (2,)], [(0, 1), (1, 2), (0, 2), (2, 0)])
        self.assertEqual((needless(line), trimmed(line)), ([(0, 2)], Net(1, [(0,), (1,), (2,)], [(0, 1), (1, 2), (2, 0)])))
        self.assertIs(follows(trimmed(line), line), True)
        self.assertEqual(follow_paths(trimmed(line), line), {(0, 1): (0, 1), (0, 2): (0, 1, 2), (1, 2): (1, 2), (2, 0): (2, 0)})
        self.assertIsNone(follow_bar(mirror_kind(1), trimmed(line), line))
        none = Net(1, [(0,), (1,), (2,)], [])
        self.assertEqual((follow_paths(line, none), follow_paths(none, line), follows(none, none)), ({}, None, True))
        tie, rose = follow_bar(mirror_kind(1), none, line)
        self.assertEqual((tie, is_kept(mirror_kind(1), rose)), ((0, 1), True))

    def test_straight_or_bending(self):
        r, seen = seeded(1021), {True: 0, False: 0}
        for _ in range(400):
            kind, net, first, last = any_problem(r)
            told = check_pure(self, straight_path, net, first, last)
            self.assertEqual(told, oracle_straight(net, first, last))
            if oracle_paths(net, first, last):
                rose = check_pure(self, bending_rose, kind, net, first, last)
                self.assertNotEqual(told is None, rose is None)
                seen[told is None] += 1
                if rose is not None:
                    self.assertTrue(oracle_net_bar(kind, net, first, last, straight_trip(net, first, last), rose))
        self.assertGreater(min(seen.values()), 40)

    def test_trimmed(self):
        r, seen = seeded(1022), [0, 0]
        for _ in range(200):
            net = any_net(r, r.choice([1, 1, 2, 3]))
            self.assertEqual(check_pure(self, needless, net), oracle_needless(net))
            told = check_pure(self, trimmed, net)
            seen[told == net] += 1
            self.assertEqual((told.places, needless(told)), (net.places, []))
            self.assertEqual(told.ties, tuple(tie for tie in net.ties if tie not in needless(net)))
            for _ in range(3):
                rose, first = any_rose(r, net.size, 3), r.randrange(len(net.places))
                self.assertEqual(quickest(net, rose, first), quickest(told, rose, first))
        self.assertGreater(min(seen), 30)

    def test_follows(self):
        r, seen = seeded(1023), {True: 0, False: 0}
        for _ in range(250):
            kind = r.choice(kinds_of(r.choice([1, 1, 2, 3])))
            one = any_net(r, kind.size)
            other = any_net(r, kind.size, list(one.places))
            if r.random() < 0.3:
                other = r.choice([trimmed(one), Net(one.size, one.places, r.sample(one.ties, r.randint(0, len(one.ties))))])
            told, by_paths = check_pure(self, follows, one, other), check_pure(self, follow_paths, one, other)
            bar = check_pure(self, follow_bar, kind, one, other)
            seen[told] += 1
            self.assertEqual((by_paths is None, bar is None), (not told, told))
            if told:
                self.assertEqual(list(by_paths.items()), [(tie, oracle_straight(one, *tie)) for tie in other.ties])
            else:
                tie, rose = bar
                self.assertIn(tie, other.ties)
                self.assertTrue(oracle_net_bar(kind, one, *tie, straight_trip(one, *tie), rose))
            for _ in range(3):
                rose, first = any_rose(r, kind.size, 3), r.randrange(len(one.places))
                here, there = quickest(one, rose, first), quickest(other, rose, first)
                if told:
                    self.assertTrue(all(last in here and value(here[last]) <= value(there[last]) for last in there))
            self.assertEqual(trimmed(one) == trimmed(other), told and follows(other, one))
        self.assertGreater(min(seen.values()), 40)

    def test_wrong(self):
        check_refusals(self, straight_path, {"net": NET, "first": 0, "last": 3}, KIND_FIRST[1:])
        fails(self, BadPair, straight_path, NET, 2, 2)
        check_refusals(self, bending_rose, GOOD, [*KIND_FIRST, OTHER_KIND])
        check_behind_sizes(self, bending_rose, GOOD)
        for call in (needless, trimmed):
            check_refusals(self, call, {"net": NET}, [("net", BAD_NETS, BadNet)])
        other_sizes = ("other", [Net(1, [(0,)], []), Net(3, [(0, 0, 0)], [])], OtherSize)
        other_places = ("other", [Net(2, PLACES[:3], []), Net(2, PLACES[::-1], [])], OtherPlaces)
        nets = [("one", BAD_NETS, BadNet), ("other", BAD_NETS, BadNet)]
        for call in (follows, follow_paths):
            check_refusals(self, call, {"one": NET, "other": NET}, nets)
            for name, values, error in (other_sizes, other_places):
                for bad in values:
                    fails(self, error, call, NET, bad)
        for call in (follow_bar, net_detour, worst_tie):
            good = {"kind": plain_kind(2), "one": NET, "other": NET}
            check_refusals(self, call, good, [KIND_FIRST[0], *nets, OTHER_KIND])
            for name, values, error in (other_sizes, other_places):
                for bad in values:
                    fails(self, error, call, plain_kind(2), NET, bad)
            fails(self, OtherSize, call, plain_kind(1), NET, Net(2, PLACES[::-1], []))


def oracle_detour_shares(kind, net, first, last, told, thing):
    if type(thing) is not tuple or len(thing) != 2 or not oracle_flow(net, first, last, thing[0]):
        return False
    one = trip_times(net.size, trip_in_flow(net, thing[0]), told[1])
    return oracle_shares(kind, one, trip_times(net.size, straight_trip(net, first, last), thing[0][0] * told[0]), thing[1])


def oracle_detour_rose(kind, net, first, last, told, rose):
    if type(rose) is not Rose or not is_kept(kind, rose):
        return False
    straight = takes_all(rose, straight_trip(net, first, last))
    least = min(takes_all(rose, trip_along(net, path)) for path in oracle_paths(net, first, last))
    return least > straight == 0 if told is None else straight > 0 and least >= Fraction(*told) * straight


def oracle_detour(kind, net, first, last, told, shares, rose):
    if told is None:
        return shares is None and oracle_detour_rose(kind, net, first, last, None, rose)
    if not is_int_row(told, 2) or told[1] < 1 or told[0] < 0 or Fraction(*told).denominator != told[1]:
        return False
    return oracle_detour_shares(kind, net, first, last, told, shares) and oracle_detour_rose(kind, net, first, last, told, rose)


class DetoursTest(unittest.TestCase):
    def test_by_hand(self):
        square = Net(2, [(0, 0), (1, 0), (0, 1), (1, 1)], [(0, 1), (1, 3), (0, 2), (2, 3)])
        self.assertEqual(detour(plain_kind(2), square, 0, 3), None)
        self.assertIsNone(detour(mirror_kind(2), square, 0, 3))
        self.assertEqual(detour(Kind(2, [QUARTER]), square, 0, 3), (2, 1))
        self.assertEqual(detour(plain_kind(2), NET, 0, 3), (1, 1))
        self.assertIsNone(detour_shares(plain_kind(2), square, 0, 3))
        self.assertTrue(oracle_detour_rose(plain_kind(2), square, 0, 3, None, detour_rose(plain_kind(2), square, 0, 3)))
        line = [(0,), (1,), (2,)]
        self.assertEqual(detour(mirror_kind(1), Net(1, line, [(1, 0), (0, 2)]), 1, 2), (3, 1))
        self.assertEqual(net_detour(mirror_kind(1), Net(1, line, [(1, 0), (0, 2)]), Net(1, line, [(1, 2)])), (3, 1))
        self.assertEqual(worst_tie(mirror_kind(1), Net(1, line, [(1, 0), (0, 2)]), Net(1, line, [(1, 0), (1, 2)])), (1, 2))
        self.assertEqual((net_detour(plain_kind(2), NET, Net(2, PLACES, [])), worst_tie(plain_kind(2), NET, Net(2, PLACES, []))),
                         ((0, 1), None))
        self.assertEqual((net_detour(plain_kind(2), NET, full_net(2, PLACES)), worst_tie(plain_kind(2), NET, full_net(2, PLACES))),
                         (None, (1, 0)))

    def test_detours(self):
        r, seen = seeded(1031), {}
        for _ in range(500):
            kind, net, first, last = any_problem(r)
            if not oracle_paths(net, first, last):
                continue
            told, shares, rose = (check_pure(self, call, kind, net, first, last) for call in (detour, detour_shares, detour_rose))
            key = told if told in (None, (1, 1)) else "more"
            seen[key] = seen.get(key, 0) + 1
            self.assertEqual(told is None, shares is None)
            self.assertTrue(oracle_detour(kind, net, first, last, told, shares, rose))
            self.assertIs(are_detour(kind, net, first, last, told, shares, rose), True)
            self.assertEqual(told == (1, 1), straight_path(net, first, last) is not None)
            if told is not None:
                self.assertGreaterEqual(value(told), 1)
                for near in [as_ratio(value(told) + 1), as_ratio(value(told) - Fraction(1, 7)), (0, 1), None]:
                    self.assertIs(are_detour(kind, net, first, last, near, shares, rose), False)
                    self.assertIs(are_detour(kind, net, first, last, near, None, rose), False)
                other = rose_kept(kind, any_rose(r, kind.size, 3))
                least = min(takes_all(other, trip_along(net, path)) for path in oracle_paths(net, first, last))
                self.assertLessEqual(least, value(told) * takes_all(other, straight_trip(net, first, last)))
            else:
                self.assertIs(are_detour(kind, net, first, last, (1, 1), shares, rose), False)
        self.assertEqual(len(seen), 3)
        self.assertGreater(min(seen.values()), 10)

    def test_net_detours(self):
        r, seen = seeded(1032), {}
        for _ in range(150):
            kind = r.choice(kinds_of(r.choice([1, 1, 2, 3])))
            one = any_net(r, kind.size, any_places(r, kind.size, r.randint(2, 4)))
            other = any_net(r, kind.size, list(one.places))
            told, worst = check_pure(self, net_detour, kind, one, other), check_pure(self, worst_tie, kind, one, other)
            each = [detour(kind, one, *tie) if oracle_paths(one, *tie) else None for tie in other.ties]
            if not each:
                self.assertEqual((told, worst), ((0, 1), None))
            elif None in each:
                self.assertEqual((told, worst), (None, other.ties[each.index(None)]))
            else:
                most = max(each, key=value)
                self.assertEqual((told, worst), (most, other.ties[each.index(most)]))
            seen[told is None] = seen.get(told is None, 0) + 1
            if told is not None:
                rose = rose_kept(kind, any_rose(r, kind.size, 3))
                for first in range(len(one.places)):
                    here, there = quickest(one, rose, first), quickest(other, rose, first)
                    self.assertTrue(all(value(here[last]) <= value(told) * value(there[last]) for last in there if last != first))
        self.assertGreater(min(seen.values()), 20)

    def test_judge(self):
        r, seen = seeded(1033), {}
        while len(seen) < 3 or min(seen.values()) < 6:
            kind, net, first, last = any_problem(r)
            if not oracle_paths(net, first, last) or len(kind) > 4:
                continue
            three = [call(kind, net, first, last) for call in (detour, detour_shares, detour_rose)]
            key = three[0] if three[0] in (None, (1, 1)) else "more"
            seen[key] = seen.get(key, 0) + 1
            if seen[key] > 8:
                continue
            for k in range(2):
                if three[k] is not None:
                    check_judge(self, lambda thing: are_detour(kind, net, first, last, *three[:k], thing, *three[k + 1:]), three[k],
                                lambda thing: oracle_detour(kind, net, first, last, *three[:k], thing, *three[k + 1:]))
            for near in [three[2].rows, None, any_rose(r, kind.size, 2), rose_kept(kind, any_rose(r, kind.size, 2)), Rose(kind.size, 1, [])]:
                self.assertIs(are_detour(kind, net, first, last, three[0], three[1], near),
                              oracle_detour(kind, net, first, last, three[0], three[1], near))
        bent = Net(2, [(0, 0), (1, 0), (1, 1)], [(0, 1), (1, 2)])
        self.assertIsNone(detour(plain_kind(2), bent, 0, 2))
        steep = detour_rose(plain_kind(2), bent, 0, 2)
        self.assertIs(are_detour(plain_kind(2), bent, 0, 2, None, None, steep), True)
        for thing in [*ODD, ((1, {(0, 1): 1, (1, 2): 1}), (1, ()))]:
            self.assertIs(are_detour(plain_kind(2), bent, 0, 2, None, thing, steep), thing is None)
        three = [call(plain_kind(2), NET, 0, 3) for call in (detour, detour_shares, detour_rose)]
        for k in range(3):
            right = [thing for thing in ODD if oracle_detour(plain_kind(2), NET, 0, 3, *three[:k], thing, *three[k + 1:])]
            check_odd(self, lambda thing: are_detour(plain_kind(2), NET, 0, 3, *three[:k], thing, *three[k + 1:]), right)

    def test_wrong(self):
        for call in (detour, detour_shares, detour_rose):
            check_refusals(self, call, GOOD, [*KIND_FIRST, OTHER_KIND])
            check_behind_sizes(self, call, GOOD)
        good = {**GOOD, "told": None, "shares": None, "rose": None}
        check_refusals(self, are_detour, good, [*KIND_FIRST, OTHER_KIND])
        check_behind_sizes(self, are_detour, good)


def paths_by(net, first, last, tie):
    wide = Net(net.size, net.places, [*net.ties, tie])
    return [path for path in oracle_paths(wide, first, last) if tie in list(zip(path, path[1:]))]


class MoreTiesTest(unittest.TestCase):
    def test_by_hand(self):
        net = Net(2, [(0, 0), (1, 0), (2, 0), (1, 1)], [(0, 1), (1, 2), (0, 3), (3, 2)])
        kind = plain_kind(2)
        self.assertIs(helps(kind, net, 0, 2, (0, 2)), False)
        self.assertEqual(list(helpless(kind, net, 0, 2, (0, 2))), [(0, 2)])
        self.assertIs(helps(kind, net, 2, 0, (2, 0)), True)
        self.assertEqual(helping(kind, net, 2, 0, (2, 0))[0], (2, 0))
        self.assertIs(helps(kind, net, 0, 2, (0, 1)), False)
        self.assertEqual(list(helpless(kind, net, 0, 2, (0, 1))), [(0, 1, 2)])
        # No path goes by it.
        self.assertEqual((helps(kind, net, 0, 2, (2, 0)), helping(kind, net, 0, 2, (2, 0)), helpless(kind, net, 0, 2, (2, 0))),
                         (False, None, {}))
        self.assertIs(are_helpless(kind, net, 0, 2, (2, 0), {}), True)
        # The net has no path at all: any rose shows it.
        self.assertIs(is_helping(kind, net, 2, 1, (2, 3), ((2, 3), Rose(2, 1, []))), False)
        self.assertIs(is_helping(kind, net, 2, 1, (2, 1), ((2, 1), Rose(2, 1, []))), True)

    def oracle_helping(self, kind, net, first, last, tie, thing):
        if type(thing) is not tuple or len(thing) != 2 or type(thing[0]) is not tuple or not all(is_int(k) for k in thing[0]):
            return False
        if thing[0] not in paths_by(net, first, last, tie):
            return False
        return oracle_net_bar(kind, net, first, last, trip_along(net, thing[0]), thing[1])

    def oracle_helpless(self, kind, net, first, last, tie, thing):
        if type(thing) is not dict or set(thing) != set(paths_by(net, first, last, tie)):
            return False
        if not all(type(path) is tuple and all(is_int(k) for k in path) for path in thing):
            return False
        return all(oracle_net_shares(kind, net, first, last, trip_along(net, path), thing[path]) for path in thing)

    def test_helping_or_helpless(self):
        r, seen = seeded(1041), {}
        for _ in range(400):
            kind, net, first, last = any_problem(r)
            tie = tuple(r.sample(range(len(net.places)), 2)) if r.random() < 0.6 else (first, last)
            if len(net.ties) == 12 and tie not in net.ties:
                continue
            told, help_found, none = (check_pure(self, call, kind, net, first, last, tie) for call in (helps, helping, helpless))
            self.assertEqual((help_found is None, none is None), (not told, told))
            key = "helps" if told else "none" if none == {} else "helpless"
            seen[key] = seen.get(key, 0) + 1
            if told:
                self.assertTrue(self.oracle_helping(kind, net, first, last, tie, help_found))
                self.assertIs(is_helping(kind, net, first, last, tie, help_found), True)
            else:
                self.assertEqual(list(none), paths_by(net, first, last, tie))
                self.assertTrue(self.oracle_helpless(kind, net, first, last, tie, none))
                self.assertIs(are_helpless(kind, net, first, last, tie, none), True)
                self.assertIs(are_helpless(kind, net, first, last, tie, dict(reversed(none.items()))), True)
            if tie == (first, last):
                self.assertEqual(told, straight_path(net, first, last) is None)
            if tie in net.ties:
                self.assertFalse(told)
        self.assertEqual(len(seen), 3)
        self.assertGreater(min(seen.values()), 30)

    def test_helps_nowhere(self):
        r, seen = seeded(1042), {True: 0, False: 0}
        for _ in range(160):
            kind = r.choice(kinds_of(r.choice([1, 1, 1, 2])))
            net = any_net(r, kind.size, any_places(r, kind.size, r.randint(2, 4)))
            tie = tuple(r.sample(range(len(net.places)), 2))
            if tie not in net.ties and len(net.ties) < 12:
                nowhere = not any(helps(kind, net, i, j, tie) for i, j in itertools.permutations(range(len(net.places)), 2))
                seen[nowhere] += 1
                self.assertEqual(nowhere, tie in needless(with_tie(net, tie)))
        self.assertGreater(min(seen.values()), 3)

    def path_keys(self, thing):
        for key in thing:
            yield {other: thing[other] for other in thing if other != key}
            yield {**thing, key: None}
            yield {**thing, key: (thing[key][0],)}
            yield {**thing, key: (thing[key][0], (0, thing[key][1][1]))}
            yield {**thing, key: ((thing[key][0][0] + 1, thing[key][0][1]), thing[key][1])}
            for k, place in enumerate(key):
                if place < 2:
                    yield {((*key[:k], bool(place), *key[k + 1:]) if other == key else other): thing[other] for other in thing}
            yield {**thing, key[:-1]: thing[key]}
            yield {**thing, str(key): thing[key]}
        yield from [list(thing.items()), None, {**thing, (): None}, {**thing, None: None}, tuple(thing)]

    def test_judges(self):
        r, seen = seeded(1043), {True: 0, False: 0}
        while min(seen.values()) < 15:
            kind, net, first, last = any_problem(r)
            tie = tuple(r.sample(range(len(net.places)), 2))
            if len(kind) > 4 or len(net.ties) == 12:
                continue
            told, none = helping(kind, net, first, last, tie), helpless(kind, net, first, last, tie)
            seen[told is None] += 1
            if told is not None:
                path, rose = told
                for near in [path, rose, (path,), (rose, path), [path, rose], (path, rose, 0), (list(path), rose), (path[::-1], rose),
                             (path[1:], rose), (path, None), (path, rose.rows), (path, Rose(kind.size, 1, [])),
                             (path, any_rose(r, kind.size, 2)), (tuple(map(bool, path)), rose), (tuple(map(float, path)), rose)]:
                    self.assertIs(is_helping(kind, net, first, last, tie, near), self.oracle_helping(kind, net, first, last, tie, near))
            elif none:
                for near in self.path_keys(none):
                    self.assertIs(are_helpless(kind, net, first, last, tie, near),
                                  self.oracle_helpless(kind, net, first, last, tie, near), near)
        check_odd(self, lambda thing: is_helping(plain_kind(2), NET, 0, 2, (1, 2), thing))
        check_odd(self, lambda thing: are_helpless(plain_kind(2), NET, 0, 2, (1, 2), thing))

    def test_wrong(self):
        wrong = [*KIND_FIRST, ("tie", BAD_PAIRS_OF_PLACES, BadTie), OTHER_KIND]
        wide = Net(2, [*PLACES, (9, 9)], TWELVE)
        for call in (helps, helping, helpless, is_helping, are_helpless):
            good = {**GOOD, "tie": (1, 2)}
            more = {"thing": None} if call in (is_helping, are_helpless) else {}
            check_refusals(self, call, {**good, **more}, wrong)
            check_behind_sizes(self, call, {**good, **more}, False)
            full = {**good, "net": wide, "tie": (4, 0), **more}
            fails(self, (TooMany, MANY), call, *full.values())
            fails(self, BadPair, call, *{**full, "first": 3}.values())
            fails(self, OtherSize, call, *{**full, "first": 3, "kind": plain_kind(1)}.values())
            call(*{**full, "tie": (1, 0)}.values())


if __name__ == "__main__":
    unittest.main()
