"""[64] Grounds of claims, and facts that quarrel."""

import itertools
import unittest

from pacerose.claims import folded
from pacerose.errors import BadClaim, BadFacts, BadKind, BadLot, TooMany
from pacerose.facts import is_fact
from pacerose.following import follows
from pacerose.grounds import bridge, greatest_lots, lean, least_grounds, least_quarrels, needless
from pacerose.kinds import mirror_kind, plain_kind
from pacerose.quarrels import agreed
from tests.helpers import BAD_KINDS, check_pure, check_refusals, fails, kinds_of, seeded
from tests.test_facts import BAD_FACT, BAD_FACT_LISTS, FACT, any_fact
from tests.test_following import BY_HAND, CLAIM, NEVER, QUARREL, any_problem
from tests.test_stretches import check_behind

BAD_LOTS = [None, 5, [0], (1, 0), (0, 0), (2,), (-1,), (True,), (0.0,), "0", ("0",), (0, 1, 2), {}, ((0,),)]


def lots_of(many):
    return [lot for length in range(many + 1) for lot in itertools.combinations(range(many), length)]


def part(facts, lot):
    return [facts[index] for index in lot]


def least(right):
    """The least ones of the lots that are right."""
    return sorted(lot for lot in right if right[lot] and not any(right[lot[:k] + lot[k + 1:]] for k in range(len(lot))))


def steps_of(*facts):
    return {step for one, other, _ in facts for step, _ in one + other}


def images_of_steps(kind, facts):
    """The different steps of facts, each in its folded form."""
    return {folded(kind, ((step, 1),)) for step in steps_of(*facts)}


class GroundsTest(unittest.TestCase):
    def test_by_hand(self):
        kind = mirror_kind(2)
        self.assertEqual(least_grounds(kind, BY_HAND, CLAIM), [(0, 1)])
        self.assertEqual(least_grounds(kind, BY_HAND, ((), (), (0, 1))), [()])
        self.assertEqual(least_grounds(kind, BY_HAND, NEVER), [])
        self.assertEqual(least_grounds(kind, [], CLAIM), [])
        self.assertEqual(least_quarrels(kind, BY_HAND), [])
        self.assertEqual(greatest_lots(kind, BY_HAND), [(0, 1)])
        self.assertEqual(greatest_lots(kind, []), [()])
        self.assertEqual(least_quarrels(kind, []), [])
        facts = [*QUARREL, BY_HAND[0], NEVER]
        self.assertEqual(least_quarrels(kind, facts), [(0, 1), (0, 2), (3,)])
        self.assertEqual(greatest_lots(kind, facts), [(0,), (1, 2)])
        self.assertEqual(greatest_lots(kind, [NEVER]), [()])
        self.assertEqual(least_grounds(kind, facts, CLAIM), [(0, 1), (0, 2), (3,)])
        self.assertEqual(needless(kind, [BY_HAND[0], BY_HAND[0], BY_HAND[1]]), [0, 1])
        self.assertEqual(lean(kind, [BY_HAND[0], BY_HAND[0], BY_HAND[1]]), (1, 2))
        self.assertEqual(lean(kind, [((), (), (0, 1))]), ())
        self.assertEqual((needless(kind, []), lean(kind, [])), ([], ()))
        self.assertIsNone(bridge(kind, BY_HAND, (0,), NEVER))

    def check_lots(self, kind, facts, claim):
        lots = lots_of(len(facts))
        grounds = {lot: follows(kind, part(facts, lot), claim) for lot in lots}
        quarrels = {lot: agreed(kind, part(facts, lot)) is None for lot in lots}
        told, clashing = check_pure(self, least_grounds, kind, facts, claim), check_pure(self, least_quarrels, kind, facts)
        self.assertEqual(told, least(grounds))
        self.assertEqual(clashing, least(quarrels))
        fine = [lot for lot in lots if not quarrels[lot]]
        greatest = sorted(lot for lot in fine if not any(set(lot) < set(other) for other in fine))
        self.assertEqual(check_pure(self, greatest_lots, kind, facts), greatest)
        hitting = {lot: all(set(lot) & set(other) for other in clashing) for lot in lots}
        self.assertEqual(sorted(tuple(sorted(set(range(len(facts))) - set(lot))) for lot in greatest), least(hitting))
        for lot in clashing:
            self.assertLessEqual(len(lot), len(images_of_steps(kind, part(facts, lot))) + 1)
        for lot in told:
            if not quarrels[lot]:
                self.assertLessEqual(len(lot), len(steps_of(*part(facts, lot), claim)))
        return told, clashing

    def test_lots(self):
        r = seeded(641)
        seen = [0, 0, 0]
        for _ in range(70):
            kind, facts, claim = any_problem(r, r.choice([0, 1, 2, 3, 4, 5]))
            if r.random() < 0.6:
                kind = r.choice(kinds_of(1) + kinds_of(2)[:4])
                facts = [any_fact(r, kind.size, 1, -2, 3) for _ in range(5)]
                claim = any_fact(r, kind.size, 1, 0, 6)
            told, clashing = self.check_lots(kind, facts, claim)
            seen[0] += len(told) > 1
            seen[1] += len(clashing) > 1
            seen[2] += any(len(lot) > 1 for lot in clashing + told)
        self.assertGreater(min(seen), 8)

    def test_eight_facts(self):
        r = seeded(642)
        for kind in (plain_kind(1), mirror_kind(1), plain_kind(2)):
            facts = [any_fact(r, kind.size, 1) for _ in range(8)]
            self.check_lots(kind, facts, any_fact(r, kind.size, 1))

    def test_needless_and_lean(self):
        r = seeded(643)
        seen = 0
        for _ in range(80):
            kind, facts, _ = any_problem(r, r.randint(0, 4), r.choice([-3, 0]))
            if facts and r.random() < 0.5:
                facts.append(r.choice(facts))
            told = check_pure(self, needless, kind, facts)
            many = range(len(facts))
            self.assertEqual(told, [at for at in many if follows(kind, [facts[k] for k in many if k != at], facts[at])])
            left = list(many)
            for at in many:
                others = [k for k in left if k != at]
                if follows(kind, part(facts, others), facts[at]):
                    left = others
            self.assertEqual(check_pure(self, lean, kind, facts), tuple(left))
            seen += len(left) < len(facts)
            for fact in facts:
                self.assertTrue(follows(kind, part(facts, left), fact))
        self.assertGreater(seen, 20)

    def test_bridges(self):
        r = seeded(644)
        seen = {True: 0, False: 0}
        for _ in range(150):
            kind, facts, claim = any_problem(r, r.randint(0, 4))
            lot = r.choice(lots_of(len(facts)))
            told = check_pure(self, bridge, kind, facts, lot, claim)
            self.assertEqual(told is not None, follows(kind, facts, claim))
            seen[told is None] += 1
            if told is not None:
                self.assertIs(is_fact(kind.size, told), True)
                self.assertTrue(follows(kind, part(facts, lot), told))
                others = [fact for k, fact in enumerate(facts) if k not in lot]
                self.assertTrue(follows(kind, [*others, told], claim))
        self.assertGreater(min(seen.values()), 40)

    def test_wrong(self):
        wrong = [("kind", BAD_KINDS, BadKind), ("facts", BAD_FACT_LISTS, BadFacts)]
        claims = ("claim", BAD_FACT, BadClaim)
        good = {"kind": plain_kind(2), "facts": [FACT, BY_HAND[0]]}
        many = (TooMany, {"most": 8})
        nine = {**good, "facts": [BY_HAND[0]] * 9}
        check_refusals(self, least_grounds, {**good, "claim": CLAIM}, [*wrong, claims])
        check_behind(self, least_grounds, {**nine, "claim": CLAIM}, [wrong[0], claims], many)
        for call in (least_quarrels, greatest_lots, needless, lean):
            check_refusals(self, call, good, wrong)
            check_behind(self, call, nine, wrong[:1], many)
            fails(self, BadFacts, call, plain_kind(2), [BY_HAND[0]] * 9 + [None])
            call(plain_kind(2), [BY_HAND[0]] * 8)
        lots = ("lot", BAD_LOTS, BadLot)
        check_refusals(self, bridge, {**good, "lot": (0,), "claim": CLAIM}, [*wrong, lots, claims])
        check_behind(self, bridge, {**nine, "lot": (0,), "claim": CLAIM}, [wrong[0], ("lot", [(9,), [1], None], BadLot), claims],
                     many)


if __name__ == "__main__":
    unittest.main()
