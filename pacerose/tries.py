"""Which of some trips have to be tried to settle a claim, and a rose in which no lesser lot of them settles it."""

from itertools import combinations

from pacerose.facts import slack_of
from pacerose.forms import is_lot, is_pair
from pacerose.grounds import check_many, is_within
from pacerose.quarrels import is_rose_here
from pacerose.settling import Trials, are_alike, check_settling, right_parted, settled_at_once


def check_tries(kind, facts, trips, claim):
    check_settling(kind, facts, trips, claim)
    check_many(trips)


def begun(kind, facts, trips, claim):
    """The trials of all trips; None if nothing has to be tried."""
    told, roses = settled_at_once(kind, facts, claim)
    return Trials(kind, facts, trips, claim, roses) if told is None else None


def least_settling(trials):
    """The least lots that settle the claim."""
    found, many = [], len(trials.trips)
    for length in range(1, many + 1):
        for lot in combinations(range(many), length):
            if not any([is_within(known, lot) for known in found]) and trials.sum_for(lot) is not None:
                found = found + [lot]
    return sorted(found)


def least_tries(kind, facts, trips, claim):
    check_tries(kind, facts, trips, claim)
    trials = begun(kind, facts, trips, claim)
    return [()] if trials is None else least_settling(trials)


def open_lots(trials):
    """The ascending list of all lots that do not settle the claim."""
    least, many = least_settling(trials), len(trials.trips)
    found = []
    for length in range(many + 1):
        for lot in combinations(range(many), length):
            if not any([is_within(known, lot) for known in least]):
                found.append(lot)
    return sorted(found)


def parted_by_lot(trials, lots):
    """For each lot parted roses: those of a lot around it are right for it, too."""
    found = {}
    for length in range(len(trials.trips), -1, -1):
        for lot in lots:
            if len(lot) == length:
                wider = [known for known in found if is_within(lot, known)]
                found[lot] = found[wider[0]] if len(wider) > 0 else trials.parted(lot)
    return {lot: found[lot] for lot in lots}


def stubborn(kind, facts, trips, claim):
    check_tries(kind, facts, trips, claim)
    trials = begun(kind, facts, trips, claim)
    if trials is None:
        return None
    table = parted_by_lot(trials, open_lots(trials))
    return trials.weighted(trials.even_weights()), table


def are_parted_from(kind, facts, trips, claim, rose, pair):
    """Whether they are parted roses in which the trips take as long as in the rose."""
    return right_parted(kind, facts, trips, claim, pair) and all([are_alike(rose, pair[0], trip) for trip in trips])


def is_stubborn(kind, facts, trips, claim, thing):
    check_tries(kind, facts, trips, claim)
    if not is_pair(thing) or not is_rose_here(kind, facts, thing[0]) or not isinstance(thing[1], dict):
        return False
    rose, table = thing
    if slack_of(rose, claim)[0] != 0 or not all([is_lot(lot, len(trips)) for lot in table]):
        return False
    trials = begun(kind, facts, trips, claim)
    if trials is None or sorted(list(table)) != open_lots(trials):
        return False
    return all([are_parted_from(kind, facts, [trips[index] for index in lot], claim, rose, table[lot])
                for lot in table])
