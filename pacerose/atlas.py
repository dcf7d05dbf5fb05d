"""Live atlases: places, what is told of going between them, and questions, all with undo."""

from pacerose.atlasdeeds import after, check_errand, check_question, logged
from pacerose.atlasstates import begun_state, contrary, first_lot
from pacerose.claims import made_folded
from pacerose.errors import NothingDone, NothingUndone
from pacerose.kinds import check_kind
from pacerose.leans import farthest, least_and_rose
from pacerose.worths import Worths


class Atlas:
    """History: the deeds that stand, with what stood ahead of each; undone: those taken back, with what came of it."""

    def __init__(self, kind):
        check_kind(kind)
        self.kind = kind
        self.state = begun_state(kind)
        self.history = []
        self.undone = []

    def __len__(self):
        return len(self.history)

    def __eq__(self, other):
        if not isinstance(other, Atlas) or self.kind != other.kind or self.state.homes != other.state.homes:
            return False
        return self.state.listed == other.state.listed and self.state.asked == other.state.asked

    def carry_out(self, deed):
        """Do a deed, told as in a log."""
        state = after(self.state, deed)
        self.history.append((logged(deed), self.state))
        self.state = state
        self.undone = []

    def place(self, word, step):
        self.carry_out(("place", word, step))

    def move(self, word, step):
        self.carry_out(("move", word, step))

    def drop(self, word):
        self.carry_out(("drop", word))

    def told(self, errand, low, high):
        self.carry_out(("told", errand, low, high))

    def fact(self, one, other, extra):
        self.carry_out(("fact", one, other, extra))

    def forget(self, at):
        self.carry_out(("forget", at))

    def ask(self, name, one, other, extra):
        self.carry_out(("ask", name, one, other, extra))

    def close(self, name):
        self.carry_out(("close", name))

    def attempt(self, deeds):
        self.carry_out(("attempt", deeds))

    def undo(self):
        if len(self.history) == 0:
            raise NothingDone("no deed stands")
        deed, state = self.history.pop()
        self.undone.append((deed, self.state))
        self.state = state

    def redo(self):
        if len(self.undone) == 0:
            raise NothingUndone("no deed was taken back")
        deed, state = self.undone.pop()
        self.history.append((deed, self.state))
        self.state = state

    def log(self):
        return [deed for deed, _ in self.history]

    def places(self):
        homes = self.state.homes
        return {word: homes[word] for word in sorted(list(homes))}

    def entries(self):
        return list(self.state.listed)

    def questions(self):
        asked = self.state.asked
        return {name: asked[name] for name in sorted(list(asked))}

    def facts(self):
        return self.state.all_facts()

    def answer(self, name):
        check_question(self.state, name)
        return self.state.answer(name)

    def stretch(self, errand):
        check_errand(self.state, errand)
        trip, facts = made_folded(self.kind, self.state.trip(errand)), self.state.lean()
        return least_and_rose(self.kind, facts, trip)[0], farthest(self.kind, facts, trip, ())[0]

    def grounds(self, name):
        answer = self.answer(name)
        if answer == "open":
            return None
        return first_lot(self.kind, self.state.groups(), self.state.claim(name), answer)

    def both_sides(self, name):
        facts, claim = self.state.lean(), self.state.claim(name)
        return contrary(self.kind, facts, claim, "no"), contrary(self.kind, facts, claim, "sure")

    def sides(self, name):
        return self.both_sides(name) if self.answer(name) == "open" else None

    def worth(self, name):
        if self.answer(name) != "open":
            return []
        worths = Worths(self.kind, self.state.lean(), self.state.claim(name), self.both_sides(name))
        words, known, found = sorted(list(self.state.homes)), {}, []
        for start in words:
            for stop in words:
                # Ways that take equally long in all roses of the kind are worth as much.
                trip = made_folded(self.kind, self.state.trip([(start, stop, 1)]))
                if start != stop and trip not in known:
                    known[trip] = worths.is_worth(trip)
                if start != stop and known[trip]:
                    found.append((start, stop))
        return found

    def changed(self):
        if len(self.history) == 0:
            return {}
        state, found = self.history[-1][1], {}
        for name in sorted(list(self.state.asked)):
            if name in state.asked and state.asked[name] == self.state.asked[name]:
                told = (state.answer(name), self.state.answer(name))
                if told[0] != told[1]:
                    found[name] = told
        return found
