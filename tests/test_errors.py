"""[5] All errors are there, with their attributes, directly below RoseError."""

import unittest

from pacerose import errors
from tests.helpers import ODD

LISTED = """Asked, BadAt, BadAtlas, BadClaim, BadColumns, BadCosts, BadCount, BadCounts, BadDeed, BadDeeds, BadDrift(step),
BadEnds, BadErrand, BadExtra, BadFact, BadFacts, BadFlow, BadGoal, BadHigh, BadIndex, BadIndexes, BadKind, BadLine,
BadLog, BadLot, BadLow, BadMix, BadNet, BadNumber(part), BadPair, BadPairs, BadParty, BadPath, BadPlace, BadPlaces,
BadRatio, BadRose, BadRoutes, BadRow, BadRows, BadScale, BadSize, BadSpot, BadStep, BadSteps, BadTable, BadTables,
BadText(line), BadTie, BadTies, BadTime, BadTimes, BadTrip, BadTrips, BadWalk, BadWay, BadWeights, BadWind, BadWord,
Endless, Failed(at), Named, NoName, NoPath, NoQuestion, NotClosed(end), NotFlat, NotMirrored, NothingDone,
NothingUndone, OtherPlaces, OtherSize, Quarrel, Quarrels(lot), TooMany(most), Unkept, Used, Windless"""


class ErrorsTest(unittest.TestCase):
    def test_all_are_listed(self):
        names = {word.strip().split("(")[0] for word in LISTED.split(",")} | {"RoseError"}
        self.assertEqual(names, {name for name in vars(errors) if not name.startswith("__")})

    def test_base(self):
        self.assertEqual(errors.RoseError.__bases__, (ValueError,))

    def test_each(self):
        for word in LISTED.split(","):
            name, _, attribute = word.strip().rstrip(")").partition("(")
            made = getattr(errors, name)
            self.assertEqual(made.__bases__, (errors.RoseError,))
            self.assertEqual(made.__module__, "pacerose.errors")
            if not attribute:
                self.assertEqual(str(made("any text")), "any text")
                continue
            for thing in ODD:
                self.assertIs(getattr(made(thing), attribute), thing)
                self.assertIs(getattr(made(**{attribute: thing}), attribute), thing)
                self.assertEqual(list(vars(made(thing))), [attribute])
            with self.assertRaises(TypeError):
                made()


if __name__ == "__main__":
    unittest.main()
