"""All errors of the package, directly below RoseError."""


class RoseError(ValueError):
    """What was handed in is refused."""


class Asked(RoseError):
    """A question of this name stands."""


class BadAt(RoseError):
    """This is no index of an entry."""


class BadAtlas(RoseError):
    """This is no atlas."""


class BadClaim(RoseError):
    """This is no claim."""


class BadColumns(RoseError):
    """These are no columns."""


class BadCosts(RoseError):
    """These are no costs."""


class BadCount(RoseError):
    """This is no count."""


class BadCounts(RoseError):
    """These are no counts."""


class BadDeed(RoseError):
    """This is no deed."""


class BadDeeds(RoseError):
    """These are no deeds."""


class BadDrift(RoseError):
    """With this drift a step would take less than nothing."""

    def __init__(self, step):
        self.step = step


class BadEnds(RoseError):
    """These are no ends of a reach."""


class BadErrand(RoseError):
    """This is no errand."""


class BadExtra(RoseError):
    """This is no extra."""


class BadFact(RoseError):
    """This is no fact."""


class BadFacts(RoseError):
    """These are no facts."""


class BadFlow(RoseError):
    """This is no flow."""


class BadGoal(RoseError):
    """This is no goal."""


class BadHigh(RoseError):
    """This is no upper time."""


class BadIndex(RoseError):
    """This is no index."""


class BadIndexes(RoseError):
    """These are no indexes."""


class BadKind(RoseError):
    """This is no kind."""


class BadLine(RoseError):
    """This is no line."""


class BadLog(RoseError):
    """This is no log."""


class BadLot(RoseError):
    """This is no lot."""


class BadLow(RoseError):
    """This is no lower time."""


class BadMix(RoseError):
    """This is no mix."""


class BadNet(RoseError):
    """This is no net."""


class BadNumber(RoseError):
    """This part of a ratio is no number, or it is 0 below."""

    def __init__(self, part):
        self.part = part


class BadPair(RoseError):
    """The first and the last place are equal."""


class BadPairs(RoseError):
    """These are no pairs."""


class BadParty(RoseError):
    """This is no party."""


class BadPath(RoseError):
    """This is no path."""


class BadPlace(RoseError):
    """This is no place."""


class BadPlaces(RoseError):
    """These are no places."""


class BadRatio(RoseError):
    """This is no ratio."""


class BadRose(RoseError):
    """This is no rose."""


class BadRoutes(RoseError):
    """These are no routes."""


class BadRow(RoseError):
    """This is no row."""


class BadRows(RoseError):
    """These are no rows."""


class BadScale(RoseError):
    """This is no scale."""


class BadSize(RoseError):
    """This is no size."""


class BadSpot(RoseError):
    """This is no spot."""


class BadStep(RoseError):
    """This is no step."""


class BadSteps(RoseError):
    """These are no steps."""


class BadTable(RoseError):
    """This is no table."""


class BadTables(RoseError):
    """These are no tables."""


class BadText(RoseError):
    """This is no such text: it goes wrong in this line."""

    def __init__(self, line):
        self.line = line


class BadTie(RoseError):
    """This is no tie."""


class BadTies(RoseError):
    """These are no ties."""


class BadTime(RoseError):
    """This is no time."""


class BadTimes(RoseError):
    """These are no times."""


class BadTrip(RoseError):
    """This is no trip."""


class BadTrips(RoseError):
    """These are no trips."""


class BadWalk(RoseError):
    """This is no walk."""


class BadWay(RoseError):
    """This is no way."""


class BadWeights(RoseError):
    """These are no weights."""


class BadWind(RoseError):
    """This is no wind."""


class BadWord(RoseError):
    """This is no word."""


class Endless(RoseError):
    """There is an idle step."""


class Failed(RoseError):
    """The deed of this index failed."""

    def __init__(self, at):
        self.at = at


class Named(RoseError):
    """The word stands already."""


class NoName(RoseError):
    """The word does not stand."""


class NoPath(RoseError):
    """There is no path."""


class NoQuestion(RoseError):
    """No question of this name stands."""


class NotClosed(RoseError):
    """The trip does not end where it began, but here."""

    def __init__(self, end):
        self.end = end


class NotFlat(RoseError):
    """This is not in the plane."""


class NotMirrored(RoseError):
    """The rose is not mirrored."""


class NothingDone(RoseError):
    """There is nothing to take back."""


class NothingUndone(RoseError):
    """There is nothing to do again."""


class OtherPlaces(RoseError):
    """The places are unlike."""


class OtherSize(RoseError):
    """The sizes are unlike."""


class Quarrel(RoseError):
    """The facts quarrel."""


class Quarrels(RoseError):
    """The facts of these entries would quarrel."""

    def __init__(self, lot):
        self.lot = lot


class TooMany(RoseError):
    """There are more than this."""

    def __init__(self, most):
        self.most = most


class Unkept(RoseError):
    """No rose keeps the log."""


class Used(RoseError):
    """The word is used."""


class Windless(RoseError):
    """No wind keeps the log."""
