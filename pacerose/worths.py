"""Which trips are worth trying for a claim that is open.

Roses that keep the facts are gathered: what they show is not searched again.
"""

from pacerose.atlasstates import contrary, told_just
from pacerose.facts import slack_of
from pacerose.leans import farthest, lean_facts, least_and_rose
from pacerose.trips import whole_time
from pacerose.vectors import lowest


def time_in(rose, trip):
    return lowest(whole_time(rose, trip), rose.scale)


class Worths:
    def __init__(self, kind, facts, claim, roses):
        self.kind = kind
        self.facts = facts
        self.claim = claim
        self.roses = list(roses)
        self.growths = []

    def least(self, trip):
        """The least time of the trip."""
        if any([whole_time(rose, trip) == 0 for rose in self.roses]):
            return 0, 1
        time, rose = least_and_rose(self.kind, self.facts, trip)
        self.roses.append(rose)
        return time

    def greatest(self, trip):
        """The greatest time of the trip, None without end."""
        if any([whole_time(rose, trip) > 0 for rose in self.growths]):
            return None
        time, rose = farthest(self.kind, self.facts, trip, ())
        if time is None:
            self.growths.append(rose)
        else:
            self.roses.append(rose)
        return time

    def is_answered(self, trip, time):
        """Whether the claim is answered if the trip takes this time, an end of its stretch."""
        kept = [slack_of(rose, self.claim)[0] >= 0 for rose in self.roses if time_in(rose, trip) == time]
        if True in kept and False in kept:
            return False
        facts = lean_facts(self.kind, self.facts + told_just(trip, time))
        rose = contrary(self.kind, facts, self.claim, "sure" if True in kept else "no")
        if rose is None:
            return True
        self.roses.append(rose)
        return False

    def is_worth(self, trip):
        # The greatest time is searched only where it is needed: that takes longest.
        if self.is_answered(trip, self.least(trip)):
            return True
        greatest = self.greatest(trip)
        return greatest is not None and self.is_answered(trip, greatest)
