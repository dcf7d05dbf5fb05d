"""[110] Atlases, [111] their deeds, [112] what they tell."""

import copy
import itertools
import unittest
from fractions import Fraction

from pacerose.atlas import Atlas
from pacerose.errors import (Asked, BadAt, BadDeeds, BadErrand, BadExtra, BadHigh, BadKind, BadLow, BadStep, BadWord, Failed, Named,
                             NoName, NoQuestion, NothingDone, NothingUndone, Quarrels, RoseError, TooMany, Used)
from pacerose.kinds import Kind, mirror_kind, plain_kind
from pacerose.quarrels import agreed
from pacerose.ranges import answer, stretch
from pacerose.roses import Rose
from pacerose.trips import trip
from tests.helpers import (BAD_KINDS, BAD_RATIOS, NINE, QUARTER, check_refusals, fails, kinds_of, led_by, plus, row_of, seeded,
                           value)
from tests.test_facts import slack_by_words
from tests.test_following import is_here
from tests.test_logs import as_ratio

BAD_WORDS = [None, 5, "", "abcdefghi", "A", "mIll", "a b", "a1", " a", "a\n", "\u00e4", b"mill", ("mill",), True, ["mill"], {}]
BAD_STEPS = [None, 5, "ab", (), (1,), (1, 0, 0), [1, 0], (True, 0), (1.0, 0), {}]
# What is no errand, whatever stands; and what is none because of a word.
NO_ERRANDS = [None, 5, "mill-port", {}, ("mill", "port", 1), [("mill", "port")], [("mill", "port", 0)], [("mill", "port", -1)],
              [("mill", "port", True)], [("mill", "port", 1.0)], [["mill", "port", 1]], [("mill", "port", 1, 1)], [None], [()],
              [("Mill", "port", 1)], [("mill", 5, 1)], [("mill", "", 1)], [("mill", "port", "1")], [("mill", "port", 1)] * 7,
              {("mill", "port", 1)}, [("mill", None, 1)]]
BAD_ERRANDS = NO_ERRANDS + [[("mill", "nowhere", 1)], [("mill", "port", 1), ("gone", "mill", 2)]]
MILLPORT = [("mill", "port", 1)]
PORTINN = [("port", "inn", 2)]


def harbour(kind=None):
    atlas = Atlas(kind if kind is not None else mirror_kind(2))
    for word, step in [("mill", (0, 0)), ("port", (3, 0)), ("inn", (0, 4)), ("gate", (3, 0))]:
        atlas.place(word, step)
    return atlas


def told_now(atlas):
    """All that is told of an atlas without searches."""
    return copy.deepcopy((atlas.places(), list(atlas.places()), atlas.entries(), atlas.questions(), list(atlas.questions()), atlas.log(),
                          len(atlas), atlas.facts()))


def oracle_trip(kind, homes, errand):
    return trip(kind.size, [(tuple(b - a for a, b in zip(homes[i], homes[j])), count) for i, j, count in errand])


def oracle_facts(kind, homes, entry):
    if entry[0] == "fact":
        return [(oracle_trip(kind, homes, entry[1]), oracle_trip(kind, homes, entry[2]), entry[3])]
    gone, (above, below), high = oracle_trip(kind, homes, entry[1]), entry[2], entry[3]
    return [((), gone, (-above, below))] + ([] if high is None else [(gone, (), high)])


def first_lot(groups, shows):
    """The first of the shortest lots of groups whose facts together show it."""
    for length in range(len(groups) + 1):
        for lot in itertools.combinations(range(len(groups)), length):
            if shows([fact for index in lot for fact in groups[index]]):
                return lot
    return None


class Model:
    """An atlas by the words of the document: plain, slow, and without any order of errors."""

    def __init__(self, kind):
        self.kind, self.homes, self.entries, self.questions = kind, {}, [], {}

    def copy(self):
        other = Model(self.kind)
        other.homes, other.entries, other.questions = dict(self.homes), list(self.entries), dict(self.questions)
        return other

    def facts(self):
        return [fact for entry in self.entries for fact in oracle_facts(self.kind, self.homes, entry)]

    def do(self, deed):
        word, parts = deed[0], deed[1:]
        if word in ("place", "move"):
            self.homes[parts[0]] = parts[1]
        elif word == "drop":
            del self.homes[parts[0]]
        elif word == "told":
            self.entries.append(("told", tuple(parts[0]), parts[1], parts[2]))
        elif word == "fact":
            self.entries.append(("fact", tuple(parts[0]), tuple(parts[1]), parts[2]))
        elif word == "forget":
            del self.entries[parts[0]]
        elif word == "ask":
            self.questions[parts[0]] = (tuple(parts[1]), tuple(parts[2]), parts[3])
        elif word == "close":
            del self.questions[parts[0]]
        else:
            for part in parts[0]:
                self.do(part)

    def quarrels(self):
        groups = [oracle_facts(self.kind, self.homes, entry) for entry in self.entries]
        if agreed(self.kind, self.facts()) is not None:
            return None
        return first_lot(groups, lambda facts: agreed(self.kind, facts) is None)

    def claim(self, name):
        one, other, extra = self.questions[name]
        return oracle_trip(self.kind, self.homes, one), oracle_trip(self.kind, self.homes, other), extra

    def answer(self, name):
        return answer(self.kind, self.facts(), self.claim(name))

    def grounds(self, name):
        told = self.answer(name)
        groups = [oracle_facts(self.kind, self.homes, entry) for entry in self.entries]
        return None if told == "open" else first_lot(groups, lambda facts: answer(self.kind, facts, self.claim(name)) == told)

    def worth(self, name):
        found = []
        for start, stop in itertools.permutations(sorted(self.homes), 2):
            gone = oracle_trip(self.kind, self.homes, [(start, stop, 1)])
            for time in stretch(self.kind, self.facts(), gone):
                if time is not None and (start, stop) not in found and self.answer(name) == "open":
                    more = [((), gone, (-time[0], time[1])), (gone, (), time)]
                    if answer(self.kind, self.facts() + more, self.claim(name)) != "open":
                        found.append((start, stop))
        return found


def tupled(deed):
    return tuple(tupled(part) if isinstance(part, (list, tuple)) else part for part in deed)


def any_errand(r, words, most=2):
    many = r.randint(0 if r.random() < 0.15 else 1, most)
    return [(r.choice(words), r.choice(words), r.choice([1, 1, 1, 2])) for _ in range(many)] if words else []


def any_extra(r, low, high):
    return as_ratio(Fraction(r.randint(low, high), r.choice([1, 1, 2, 3])))


def any_deed(r, atlas, most=2):
    """Often right."""
    words, size = sorted(atlas.places()), atlas.kind.size
    word = r.choice(["place", "place", "told", "told", "told", "fact", "ask", "ask", "move", "drop", "forget", "close", "attempt"])
    if word == "place":
        return "place", r.choice("abcdefgh"), row_of(r, size, 3)
    if word == "move":
        return "move", r.choice(words or ["a"]), row_of(r, size, 3)
    if word == "drop":
        return "drop", r.choice(words or ["a"])
    if word == "told":
        low = any_extra(r, 0, 6)
        high = None if r.random() < 0.3 else as_ratio(value(low) + r.randint(0, 3))
        return "told", any_errand(r, words, most), low, high
    if word == "fact":
        return "fact", any_errand(r, words, most), any_errand(r, words, most), any_extra(r, -2, 4)
    if word == "ask":
        return "ask", r.choice(["q", "a", "fast"]), any_errand(r, words, most), any_errand(r, words, most), any_extra(r, -3, 5)
    if word == "forget":
        return "forget", r.randint(0, 2)
    if word == "close":
        return "close", r.choice(["q", "a", "fast"])
    deeds = []
    while not deeds or r.random() < 0.5:
        deed = any_deed(r, atlas, most)
        if deed[0] != "attempt":
            deeds.append(deed)
    return "attempt", deeds


def do(atlas, deed):
    return getattr(atlas, deed[0])(*deed[1:])


class AtlasTest(unittest.TestCase):
    def test_begin(self):
        atlas = Atlas(mirror_kind(2))
        self.assertEqual((atlas.kind, len(atlas), atlas.log(), atlas.places(), atlas.entries(), atlas.questions(), atlas.facts()),
                         (mirror_kind(2), 0, [], {}, [], {}, []))
        self.assertEqual((atlas.changed(), atlas.stretch([])), ({}, ((0, 1), (0, 1))))
        check_refusals(self, Atlas, {"kind": plain_kind(1)}, [("kind", BAD_KINDS, BadKind)])

    def test_by_hand(self):
        atlas = harbour()
        self.assertIsNone(atlas.told(MILLPORT, (5, 1), (7, 1)))
        self.assertIsNone(atlas.told((("mill", "inn", 1),), (2, 1), None))
        self.assertIsNone(atlas.fact(PORTINN, MILLPORT, (1, 2)))
        self.assertIsNone(atlas.ask("fast", MILLPORT, [], (6, 1)))
        self.assertEqual(atlas.places(), {"gate": (3, 0), "inn": (0, 4), "mill": (0, 0), "port": (3, 0)})
        self.assertEqual(list(atlas.places()), ["gate", "inn", "mill", "port"])
        self.assertEqual(atlas.entries(), [("told", (("mill", "port", 1),), (5, 1), (7, 1)), ("told", (("mill", "inn", 1),), (2, 1), None),
                                           ("fact", (("port", "inn", 2),), (("mill", "port", 1),), (1, 2))])
        self.assertEqual(atlas.questions(), {"fast": ((("mill", "port", 1),), (), (6, 1))})
        east = (((1, 0), 3),)
        self.assertEqual(atlas.facts()[:3], [((), east, (-5, 1)), (east, (), (7, 1)), ((), (((0, 1), 4),), (-2, 1))])
        self.assertEqual(atlas.facts()[3], ((((-3, 4), 2),), east, (1, 2)))
        self.assertEqual((atlas.answer("fast"), atlas.grounds("fast")), ("open", None))
        self.assertEqual(atlas.stretch([("gate", "mill", 2)]), ((10, 1), (14, 1)))
        # Even a try of another way tells how long this one takes: all ways but those between places at one point.
        self.assertEqual(atlas.worth("fast"), [way for way in itertools.permutations(["gate", "inn", "mill", "port"], 2)
                                               if sorted(way) != ["gate", "port"]])
        self.assertEqual(len(atlas), 8)
        atlas.told([("gate", "mill", 1)], (0, 1), (6, 1))
        self.assertEqual((atlas.answer("fast"), atlas.grounds("fast"), atlas.changed()), ("sure", (3,), {"fast": ("open", "sure")}))
        self.assertEqual((atlas.sides("fast"), atlas.worth("fast")), (None, []))
        atlas.undo()
        self.assertEqual((atlas.answer("fast"), atlas.changed()), ("open", {}))
        atlas.redo()
        self.assertEqual(atlas.changed(), {"fast": ("open", "sure")})
        atlas.forget(3)
        self.assertEqual(atlas.changed(), {"fast": ("sure", "open")})

    def test_quarrels(self):
        atlas = harbour()
        atlas.told(PORTINN, (1, 1), None)
        atlas.told(MILLPORT, (5, 1), (7, 1))
        before = told_now(atlas)
        fails(self, (Quarrels, {"lot": (1, 2)}), atlas.told, [("port", "mill", 1)], (8, 1), None)
        fails(self, (Quarrels, {"lot": (2,)}), atlas.told, [], (1, 1), (1, 1))
        fails(self, (Quarrels, {"lot": (2,)}), atlas.told, MILLPORT, (-3, 1), (-2, 1))
        fails(self, (Quarrels, {"lot": (2,)}), atlas.fact, MILLPORT, MILLPORT, (-1, 2))
        fails(self, (Quarrels, {"lot": (1, 2)}), atlas.fact, [("mill", "gate", 2)], [], (9, 1))
        self.assertEqual(told_now(atlas), before)
        # Another place makes what was told wrong.
        atlas.told([("mill", "gate", 1)], (6, 1), (6, 1))
        fails(self, (Quarrels, {"lot": (1, 2)}), atlas.move, "gate", (6, 0))
        atlas.move("gate", (-3, 0))
        self.assertEqual(atlas.places()["gate"], (-3, 0))
        # Told twice: the first of the shortest lots.
        atlas = harbour()
        atlas.told(MILLPORT, (0, 1), (4, 1))
        atlas.told(MILLPORT, (0, 1), (3, 1))
        fails(self, (Quarrels, {"lot": (0, 2)}), atlas.told, MILLPORT, (5, 1), None)
        fails(self, (Quarrels, {"lot": (1, 2)}), atlas.told, MILLPORT, (7, 2), None)

    def refused(self, atlas, deed, error):
        """By the method, and within an attempt, where it is the cause."""
        before = told_now(atlas)
        fails(self, error, getattr(atlas, deed[0]), *deed[1:])
        with self.assertRaises(Failed) as caught:
            atlas.attempt([("place", "other", (9,) * atlas.kind.size), deed])
        kind, attributes = error if isinstance(error, tuple) else (error, {})
        cause = caught.exception.__cause__
        self.assertEqual((vars(caught.exception), type(cause), vars(cause)), ({"at": 1}, kind, attributes))
        self.assertEqual(told_now(atlas), before)

    def test_refusals(self):
        atlas = harbour()
        atlas.told(MILLPORT, (5, 1), (7, 1))
        atlas.ask("fast", MILLPORT, [], (6, 1))
        for bad in BAD_WORDS:
            for deed in [("place", bad, None), ("move", bad, None), ("drop", bad), ("ask", bad, None, None, None), ("close", bad)]:
                self.refused(atlas, deed, BadWord)
            for call in (atlas.answer, atlas.grounds, atlas.sides, atlas.worth):
                fails(self, BadWord, call, bad)
        for call in (atlas.answer, atlas.grounds, atlas.sides, atlas.worth, atlas.close):
            fails(self, NoQuestion, call, "mill")
        for bad in BAD_STEPS:
            self.refused(atlas, ("place", "mill", bad), BadStep)
            self.refused(atlas, ("place", "new", bad), BadStep)
            self.refused(atlas, ("move", "mill", bad), BadStep)
            self.refused(atlas, ("move", "new", bad), NoName)
        self.refused(atlas, ("place", "mill", (1, 1)), Named)
        self.refused(atlas, ("drop", "new"), NoName)
        self.refused(atlas, ("drop", "mill"), Used)
        self.refused(atlas, ("drop", "port"), Used)
        for bad in BAD_ERRANDS:
            self.refused(atlas, ("told", bad, None, None), BadErrand)
            self.refused(atlas, ("fact", bad, None, None), BadErrand)
            self.refused(atlas, ("fact", bad, MILLPORT, (1, 1)), BadErrand)
            self.refused(atlas, ("ask", "new", bad, MILLPORT, (1, 1)), BadErrand)
            self.refused(atlas, ("fact", MILLPORT, bad, None), BadErrand)
            self.refused(atlas, ("ask", "new", bad, None, None), BadErrand)
            self.refused(atlas, ("ask", "new", [], bad, None), BadErrand)
            self.refused(atlas, ("ask", "fast", bad, None, None), Asked)
            fails(self, BadErrand, atlas.stretch, bad)
        for bad in BAD_RATIOS:
            self.refused(atlas, ("told", MILLPORT, bad, "high"), BadLow)
            if bad is not None:
                self.refused(atlas, ("told", MILLPORT, (1, 2), bad), BadHigh)
            self.refused(atlas, ("fact", MILLPORT, [], bad), BadExtra)
            self.refused(atlas, ("ask", "new", MILLPORT, [], bad), BadExtra)
        self.refused(atlas, ("told", MILLPORT, (1, 2), (1, 3)), BadHigh)
        self.refused(atlas, ("told", MILLPORT, (-1, 3), (-1, 2)), BadHigh)
        for bad in [None, -1, 1, 2, True, False, 0.0, "0", (0,), NINE]:
            self.refused(atlas, ("forget", bad), BadAt)
        atlas.undo()
        atlas.undo()
        atlas.drop("mill")
        self.assertEqual(sorted(atlas.places()), ["gate", "inn", "port"])

    def test_used_in_questions_alone(self):
        atlas = harbour()
        atlas.ask("inn", [], [("inn", "mill", 1)], (0, 1))
        atlas.fact([("gate", "gate", 1)], [], (0, 1))
        for word in ("inn", "mill", "gate"):
            self.refused(atlas, ("drop", word), Used)
        atlas.drop("port")
        atlas.close("inn")
        atlas.drop("inn")
        self.assertEqual(list(atlas.places()), ["gate", "mill"])

    def test_many(self):
        atlas = Atlas(plain_kind(1))
        for word in "abcdefghijkl":
            atlas.place(word, (5,))
        self.refused_alone(atlas, ("place", "m", (1,)), (TooMany, {"most": 12}))
        self.refused_alone(atlas, ("place", "l", (1,)), Named)
        atlas.drop("l")
        atlas.place("m", (1,))
        way = [("a", "m", 1)] * 6
        for k in range(6):
            atlas.told(way, (0, 1), (k + 1, 1))
            atlas.ask("abcdef"[k], way, [], (k, 1))
        six = (TooMany, {"most": 6})
        self.refused_alone(atlas, ("told", way, (9, 1), (9, 1)), six)
        self.refused_alone(atlas, ("told", way, (9, 1), (8, 1)), BadHigh)
        self.refused_alone(atlas, ("fact", way, [], (-9, 1)), six)
        self.refused_alone(atlas, ("fact", way, [], None), BadExtra)
        self.refused_alone(atlas, ("ask", "g", way, [], (-9, 1)), six)
        self.refused_alone(atlas, ("ask", "f", way, [], None), Asked)
        self.refused_alone(atlas, ("ask", "g", way, [], None), BadExtra)
        self.assertEqual([atlas.answer(name) for name in "abcdef"], ["open", "sure", "sure", "sure", "sure", "sure"])
        self.assertEqual(atlas.grounds("f"), (0,))
        # There may be six entries already: a try is told beside them.
        self.assertEqual(atlas.worth("a"), [(word, "m") for word in "abcdefghijk"])
        atlas.forget(0)
        self.assertEqual((atlas.changed(), atlas.answer("b"), atlas.grounds("c")), ({"b": ("sure", "open")}, "open", (0,)))

    def refused_alone(self, atlas, deed, error):
        before = told_now(atlas)
        fails(self, error, getattr(atlas, deed[0]), *deed[1:])
        self.assertEqual(told_now(atlas), before)

    def test_names_of_parameters(self):
        atlas = Atlas(kind=plain_kind(2))
        atlas.place(word="mill", step=(0, 0))
        atlas.place(word="port", step=(1, 0))
        atlas.move(word="port", step=(2, 0))
        atlas.told(errand=MILLPORT, low=(1, 1), high=None)
        atlas.fact(one=[], other=MILLPORT, extra=(0, 1))
        atlas.ask(name="q", one=MILLPORT, other=[], extra=(4, 1))
        self.assertEqual((atlas.answer(name="q"), atlas.stretch(errand=MILLPORT), atlas.grounds(name="q")), ("open", ((1, 1), None), None))
        self.assertEqual((len(atlas.sides(name="q")), atlas.worth(name="q")), (2, [("mill", "port")]))
        atlas.close(name="q")
        atlas.forget(at=0)
        atlas.attempt(deeds=[("forget", 0)])
        atlas.drop(word="mill")
        self.assertEqual(len(atlas), 10)

    def test_attempts(self):
        atlas = harbour()
        length = len(atlas)
        deeds = [("place", "new", (1, 1)), ("told", [("new", "mill", 1)], (1, 1), None), ("ask", "q", MILLPORT, (), (1, 1)), ("forget", 0),
                 ("close", "q"), ("drop", "new"), ("move", "inn", (7, 7)), ("fact", MILLPORT, [], (3, 1))]
        kept = copy.deepcopy(deeds)
        self.assertIsNone(atlas.attempt(deeds))
        self.assertEqual(deeds, kept)
        self.assertEqual((len(atlas), atlas.log()[-1]), (length + 1, ("attempt", tupled(deeds))))
        self.assertEqual((atlas.places()["inn"], len(atlas.entries()), atlas.questions()), ((7, 7), 1, {}))
        atlas.undo()
        self.assertEqual((len(atlas), atlas.places()["inn"], atlas.entries()), (length, (0, 4), []))
        atlas.redo()
        self.assertEqual((len(atlas), atlas.places()["inn"]), (length + 1, (7, 7)))
        atlas.undo()
        good = ("place", "new", (1, 1))
        for bad in [None, 5, "ab", [], (), {}, [None], [good, None], [[*good]], [("place", "new")], [("place", "new", (1, 1), 0)], [()],
                    [("drop",)], [("drop", "a", "b")], [("forget",)], [("told", MILLPORT, (1, 1))], [("ask", "q", [], [])], [("undo",)],
                    [("redo",)], [("attempt", [good])], [good, ("attempt", (good,))], [(None, "new")], [(b"drop", "new")], [("Drop", "a")],
                    [([], 1)], good, [good, ("close", "a", 1)], {good}]:
            self.refused_alone(atlas, ("attempt", bad), BadDeeds)
        # Undo waits still: attempts that fail forget nothing.
        before = told_now(atlas)
        for at, bad in enumerate([("place", "new", (1, 1)), ("drop", "none"), ("told", [], (1, 1), None)]):
            with self.assertRaises(Failed) as caught:
                atlas.attempt([("place", "new", (1, 1)), *[("move", "new", (k, k)) for k in range(at)], bad])
            self.assertEqual(vars(caught.exception), {"at": at + 1})
            self.assertIs(type(caught.exception.__cause__), [Named, NoName, Quarrels][at])
        self.assertEqual(told_now(atlas), before)
        atlas.redo()
        self.assertEqual(atlas.places()["inn"], (7, 7))

    def test_changed_claims_do_not_count(self):
        atlas = harbour()
        atlas.ask("q", MILLPORT, [], (1, 1))
        atlas.ask("p", MILLPORT, [], (1, 1))
        told = ("told", MILLPORT, (5, 1), None)
        atlas.attempt([told, ("close", "q"), ("ask", "q", MILLPORT, [], (2, 1)), ("close", "p"), ("ask", "p", MILLPORT, [], (1, 1))])
        self.assertEqual((atlas.answer("q"), atlas.changed()), ("no", {"p": ("open", "no")}))
        atlas.ask("late", MILLPORT, [], (3, 1))
        self.assertEqual(atlas.changed(), {})
        atlas.attempt([("forget", 0), ("close", "p")])
        self.assertEqual(atlas.changed(), {"late": ("no", "open"), "q": ("no", "open")})

    def test_attempt_quarrels_on_its_way(self):
        """Each deed of an attempt is refused by itself, though a later one would make it right."""
        atlas = harbour()
        atlas.told(MILLPORT, (5, 1), (5, 1))
        with self.assertRaises(Failed) as caught:
            atlas.attempt([("told", MILLPORT, (6, 1), (6, 1)), ("forget", 0)])
        self.assertEqual((caught.exception.at, vars(caught.exception.__cause__)), (0, {"lot": (0, 1)}))
        atlas.attempt([("forget", 0), ("told", MILLPORT, (6, 1), (6, 1))])
        self.assertEqual(atlas.stretch(MILLPORT), ((6, 1), (6, 1)))

    def test_undo_and_redo(self):
        atlas = Atlas(plain_kind(2))
        fails(self, NothingDone, atlas.undo)
        fails(self, NothingUndone, atlas.redo)
        atlas.place("mill", (0, 0))
        atlas.place("port", (1, 0))
        fails(self, NothingUndone, atlas.redo)
        self.assertIsNone(atlas.undo())
        self.assertIsNone(atlas.undo())
        fails(self, NothingDone, atlas.undo)
        self.assertIsNone(atlas.redo())
        self.assertEqual((atlas.log(), len(atlas)), ([("place", "mill", (0, 0))], 1))
        fails(self, Named, atlas.place, "mill", (0, 0))
        atlas.redo()
        fails(self, NothingUndone, atlas.redo)
        atlas.undo()
        atlas.place("inn", (4, 4))
        fails(self, NothingUndone, atlas.redo)
        self.assertEqual(list(atlas.places()), ["inn", "mill"])

    def test_equal(self):
        one, other = harbour(), harbour()
        self.assertTrue(one == other)
        one.told(MILLPORT, (1, 1), None)
        self.assertFalse(one == other)
        one.forget(0)
        self.assertTrue(one == other)
        one.ask("q", MILLPORT, [], (1, 1))
        self.assertFalse(one == other)
        other.ask("q", tuple(MILLPORT), (), (1, 1))
        self.assertTrue(one == other)
        other.undo()
        one.close("q")
        one.move("inn", (1, 1))
        self.assertFalse(one == other)
        one.undo()
        self.assertTrue(one == other)
        self.assertFalse(Atlas(plain_kind(2)) == Atlas(mirror_kind(2)))
        self.assertFalse(Atlas(plain_kind(2)) == plain_kind(2))
        # The order of entries is one of them; that of words is not.
        here, there = Atlas(plain_kind(1)), Atlas(plain_kind(1))
        for atlas, words in ((here, "ab"), (there, "ba")):
            for word in words:
                atlas.place(word, (1,))
        self.assertTrue(here == there)
        for atlas, highs in ((here, (1, 2)), (there, (2, 1))):
            for high in highs:
                atlas.told([("a", "b", 1)], (0, 1), (high, 1))
        self.assertFalse(here == there)

    def test_new_values(self):
        atlas = harbour()
        errand = [("mill", "port", 1)]
        atlas.told(errand, (1, 1), None)
        atlas.ask("q", errand, errand, (0, 1))
        errand.append(("mill", "inn", 1))
        self.assertEqual(atlas.entries()[0][1], (("mill", "port", 1),))
        before = told_now(atlas)
        for table in (atlas.places(), atlas.questions()):
            table.clear()
        for listed in (atlas.entries(), atlas.log(), atlas.facts(), atlas.worth("q")):
            listed.append(5)
        self.assertEqual(told_now(atlas), before)

    def check_told(self, r, atlas, model):
        kind, facts = model.kind, model.facts()
        self.assertEqual(atlas.places(), model.homes)
        self.assertEqual(list(atlas.places()), sorted(model.homes))
        self.assertEqual((atlas.entries(), atlas.questions(), list(atlas.questions())),
                         (model.entries, model.questions, sorted(model.questions)))
        self.assertEqual(atlas.facts(), facts)
        words = sorted(model.homes)
        errand = any_errand(r, words, 3)
        self.assertEqual(atlas.stretch(errand), stretch(kind, facts, oracle_trip(kind, model.homes, errand)))
        for name in model.questions:
            told, sides = atlas.answer(name), atlas.sides(name)
            self.assertEqual(told, model.answer(name))
            self.assertEqual(atlas.grounds(name), model.grounds(name))
            self.assertEqual(sides is None, told != "open")
            if sides is not None:
                self.assertTrue(type(sides) is tuple and all(is_here(kind, facts, rose) for rose in sides))
                slacks = [slack_by_words(rose, model.claim(name)) for rose in sides]
                self.assertTrue(slacks[0] >= 0 > slacks[1])
            if len(model.homes) < 6:
                self.assertEqual(atlas.worth(name), model.worth(name))
            if not model.entries and model.questions[name][2][0] >= 0:
                self.assertNotEqual(told, "no")

    def test_long_sessions(self):
        r, seen = seeded(1101), {}
        for _ in range(40):
            kind = r.choice(kinds_of(r.choice([1, 2, 2, 3])))
            atlas, history, undone = Atlas(kind), [(None, Model(kind))], []
            for word in "abc"[:r.randint(0, 3)]:
                atlas.place(word, row_of(r, kind.size, 3))
                history.append((("place", word, atlas.places()[word]), history[-1][1].copy()))
                history[-1][1].do(history[-1][0])
            for _ in range(25):
                chance, before = r.random(), told_now(atlas)
                if chance < 0.12 and len(history) > 1:
                    atlas.undo()
                    undone.append(history.pop())
                elif chance < 0.2 and undone:
                    atlas.redo()
                    history.append(undone.pop())
                else:
                    deed = any_deed(r, atlas)
                    try:
                        self.assertIsNone(do(atlas, deed))
                    except RoseError as raised:
                        seen[type(raised).__name__] = seen.get(type(raised).__name__, 0) + 1
                        self.assertEqual(told_now(atlas), before)
                        self.check_quarrel(history[-1][1], deed, raised)
                        continue
                    history.append((tupled(deed), history[-1][1].copy()))
                    history[-1][1].do(deed)
                    self.assertIsNone(history[-1][1].quarrels())
                    undone = []
                self.assertEqual((atlas.log(), len(atlas)), ([deed for deed, _ in history[1:]], len(history) - 1))
                self.check_told(r, atlas, history[-1][1])
                self.check_changed(atlas, history, seen)
        self.assertGreater(seen["Quarrels"], 10)
        self.assertGreater(seen["changed"], 10)
        self.assertGreater(seen["Failed"], 10)

    def check_quarrel(self, model, deed, raised):
        if type(raised) is Quarrels:
            after = model.copy()
            after.do(deed)
            self.assertEqual(after.quarrels(), raised.lot)

    def check_changed(self, atlas, history, seen):
        told = atlas.changed()
        if len(history) == 1:
            self.assertEqual(told, {})
            return
        before, now, expected = history[-2][1], history[-1][1], {}
        for name in sorted(now.questions):
            if before.questions.get(name) == now.questions[name] and before.answer(name) != now.answer(name):
                expected[name] = (before.answer(name), now.answer(name))
        self.assertEqual(list(told.items()), list(expected.items()))
        seen["changed"] = seen.get("changed", 0) + (told != {})
        if history[-1][0][0] in ("told", "fact"):
            self.assertTrue(all(old == "open" for old, _ in told.values()))
        if history[-1][0][0] == "forget":
            self.assertTrue(all(new == "open" for _, new in told.values()))

    def test_places_led_and_moved(self):
        """All stays if all places are led by a table of the kind, or moved by one step; and for another order of entries."""
        r, seen = seeded(1102), 0
        while seen < 25:
            kind = r.choice([Kind(2, [QUARTER]), mirror_kind(3), mirror_kind(2), plain_kind(2)])
            atlas = Atlas(kind)
            for word in "abcd":
                atlas.place(word, row_of(r, kind.size, 3))
            for _ in range(8):
                deed = any_deed(r, atlas)
                try:
                    do(atlas, deed) if deed[0] in ("told", "fact", "ask") else None
                except RoseError:
                    pass
            if not atlas.questions() or not atlas.entries():
                continue
            seen += 1
            table, shift, other, turned = r.choice(kind.tables), row_of(r, kind.size, 5), Atlas(kind), Atlas(kind)
            for word, place in atlas.places().items():
                other.place(word, plus(led_by(table, place), shift))
                turned.place(word, place)
            for entry in atlas.entries():
                do(other, entry)
            for entry in reversed(atlas.entries()):
                do(turned, entry)
            for name, claim in atlas.questions().items():
                other.ask(name, *claim)
                turned.ask(name, *claim)
                self.assertEqual((other.answer(name), other.grounds(name), other.worth(name)),
                                 (atlas.answer(name), atlas.grounds(name), atlas.worth(name)))
                self.assertEqual((turned.answer(name), turned.worth(name)), (atlas.answer(name), atlas.worth(name)))
            errand = any_errand(r, list("abcd"), 3)
            self.assertEqual(other.stretch(errand), atlas.stretch(errand))
            self.assertEqual(turned.stretch(errand), atlas.stretch(errand))

    def test_no_time_would_answer(self):
        """If a way is not worth trying and has a greatest time, no time within its stretch answers the question."""
        r, seen = seeded(1103), 0
        while seen < 12:
            atlas = Atlas(mirror_kind(2))
            for word in "abc":
                atlas.place(word, row_of(r, 2, 3))
            errand = [("a", "b", 1), ("a", "c", 1), ("b", "c", 1)]
            for way in r.sample(errand, 3):
                low, high = atlas.stretch([way])
                try:
                    atlas.told([way], low, as_ratio(value(low) + r.randint(1, 6)))
                except Quarrels:
                    pass
            atlas.ask("q", r.sample(errand, 2), r.sample(errand, 1), (r.randint(-3, 3), 1))
            if atlas.answer("q") != "open":
                continue
            for way in itertools.permutations("abc", 2):
                low, high = atlas.stretch([(*way, 1)])
                if way not in atlas.worth("q") and high is not None:
                    seen += 1
                    for share in (Fraction(0), Fraction(1, 3), Fraction(1, 2), Fraction(9, 10), Fraction(1)):
                        time = as_ratio(value(low) + share * (value(high) - value(low)))
                        if len(atlas.entries()) < 6:
                            atlas.told([(*way, 1)], time, time)
                            self.assertEqual(atlas.answer("q"), "open")
                            atlas.undo()
        self.assertIsInstance(Rose(2, 1, []), Rose)

    def test_two_places_at_one_point(self):
        atlas = harbour()
        self.assertEqual(atlas.stretch([("port", "gate", 5)]), ((0, 1), (0, 1)))
        atlas.ask("q", MILLPORT, PORTINN, (1, 1))
        self.assertNotIn(("port", "gate"), atlas.worth("q"))
        atlas.told([("port", "gate", 1)], (0, 1), (0, 1))
        atlas.move("port", (3, 1))
        self.assertEqual(atlas.stretch([("gate", "port", 1)]), ((0, 1), (0, 1)))

    def test_great_numbers(self):
        r = seeded(1104)
        atlas = Atlas(mirror_kind(2))
        for word in "abcd":
            atlas.place(word, row_of(r, 2, NINE))
        atlas.told([("a", "b", NINE)], (NINE, 7), (NINE, 2))
        atlas.fact([("c", "d", 1)], [("a", "c", NINE)], (NINE, NINE - 1))
        atlas.ask("q", [("b", "d", 1)], [("a", "d", 3)], (1, NINE))
        self.assertIn(atlas.answer("q"), ("open", "sure", "no"))
        self.assertTrue(all(type(way) is tuple for way in atlas.worth("q")))


if __name__ == "__main__":
    unittest.main()
