"""Facts that agree, told as short as can be, and what they say of the difference of two trips.

For the roses of a kind a step takes as long as each of its images, and what both trips of a fact share tells nothing.
"""

from pacerose.claims import made_folded
from pacerose.searches import Search, shared_below, whole
from pacerose.vectors import inner, lowest


def left_over(trip, counts):
    """The trip without so many of its steps."""
    return tuple([(step, count - counts.get(step, 0)) for step, count in trip if count > counts.get(step, 0)])


def lean_fact(kind, fact):
    one, other = made_folded(kind, fact[0]), made_folded(kind, fact[1])
    here, there = {step: count for step, count in one}, {step: count for step, count in other}
    return left_over(one, there), left_over(other, here), fact[2]


def lean_facts(kind, facts):
    """Facts that are kept by just the same roses of the kind; those that all roses keep are left out."""
    found = {}
    for fact in facts:
        one, other, extra = lean_fact(kind, fact)
        if len(one) > 0 or extra[0] < 0:
            found[(one, other, extra)] = True
    return list(found)


def farthest(kind, facts, one, other):
    """For facts that agree: the greatest time by which one takes longer than other, and a rose in which it does.

    Without bound None, and a rose that may be put to any rose that keeps the facts, with which one gets longer.
    """
    unit = shared_below([extra for _, _, extra in facts])
    costs = [whole(extra, unit) for _, _, extra in facts]
    search = Search(kind, [(there, here, ()) for here, there, _ in facts], (one, other, ()))
    found = search.least(costs)
    if found[0] == "none":
        return None, search.priced_rose(1, found[1])
    scale, counts = found[1]
    time = lowest(inner(counts[:len(costs)], costs), scale * unit)
    scale, prices = found[2]
    return time, search.priced_rose(scale * unit, prices)


def least_and_rose(kind, facts, trip):
    (above, below), rose = farthest(kind, facts, (), trip)
    return (-above, below), rose
