"""The deeds of an atlas: each makes of what stands what stands behind it, or is refused."""

from pacerose.atlasstates import State, first_lot
from pacerose.errands import is_high, right_errand, words_in
from pacerose.errors import (Asked, BadAt, BadDeeds, BadErrand, BadExtra, BadHigh, BadLow, BadWord, Failed, Named,
                             NoName, NoQuestion, Quarrels, RoseError, TooMany, Used)
from pacerose.facts import keeps_facts
from pacerose.forms import is_index, is_list, is_ratio, is_word
from pacerose.quarrels import agreed_and_quarrel
from pacerose.roses import check_step

# How long a deed of each name is.
LENGTHS = {"place": 3, "move": 3, "drop": 2, "told": 4, "fact": 4, "forget": 2, "ask": 5, "close": 2}


def check_word(word):
    if not is_word(word):
        raise BadWord("a word has one to eight letters from a to z")


def check_named(state, word):
    check_word(word)
    if word not in state.homes:
        raise NoName("this word does not stand")


def check_question(state, name):
    check_word(name)
    if name not in state.asked:
        raise NoQuestion("no question of this name stands")


def check_errand(state, errand):
    if not right_errand(errand) or not all([word in state.homes for word in words_in(errand)]):
        raise BadErrand("an errand is a list of at most six triples of two words that stand and a number from 1 on")


def check_claim(state, one, other, extra):
    check_errand(state, one)
    check_errand(state, other)
    if not is_ratio(extra):
        raise BadExtra("this is no ratio")


def check_six(things):
    if len(things) >= 6:
        raise TooMany(6)


def agreeing(state, homes, listed):
    """What stands with other homes and entries: facts that quarrel are refused."""
    told = State(state.kind, homes, listed, state.asked, state.rose)
    facts = told.lean()
    if keeps_facts(state.rose, facts):
        return told
    rose = agreed_and_quarrel(state.kind, facts)[0]
    if rose is None:
        raise Quarrels(first_lot(state.kind, told.groups(), None, "quarrel"))
    return State(state.kind, homes, listed, state.asked, rose)


def asking(state, asked):
    return State(state.kind, state.homes, state.listed, asked, state.rose)


def place(state, word, step):
    check_word(word)
    check_step(state.kind.size, step)
    if word in state.homes:
        raise Named("this word stands already")
    if len(state.homes) >= 12:
        raise TooMany(12)
    return State(state.kind, {**state.homes, word: step}, state.listed, state.asked, state.rose)


def move(state, word, step):
    check_named(state, word)
    check_step(state.kind.size, step)
    return agreeing(state, {**state.homes, word: step}, state.listed)


def all_errands(state):
    found = []
    for entry in state.listed:
        found.extend([entry[1]] if entry[0] == "told" else [entry[1], entry[2]])
    for name in state.asked:
        found.extend(list(state.asked[name][:2]))
    return found


def drop(state, word):
    check_named(state, word)
    if any([word in words_in(errand) for errand in all_errands(state)]):
        raise Used("an errand has this word")
    homes = {other: state.homes[other] for other in state.homes if other != word}
    return State(state.kind, homes, state.listed, state.asked, state.rose)


def told(state, errand, low, high):
    check_errand(state, errand)
    if not is_ratio(low):
        raise BadLow("this is no ratio")
    if high is not None and (not is_ratio(high) or not is_high(high, low)):
        raise BadHigh("this is neither None nor a ratio from the lower one on")
    check_six(state.listed)
    return agreeing(state, state.homes, (*state.listed, ("told", tuple(errand), low, high)))


def fact(state, one, other, extra):
    check_claim(state, one, other, extra)
    check_six(state.listed)
    return agreeing(state, state.homes, (*state.listed, ("fact", tuple(one), tuple(other), extra)))


def forget(state, at):
    if not is_index(at, len(state.listed)):
        raise BadAt("this is no index of an entry")
    return State(state.kind, state.homes, state.listed[:at] + state.listed[at + 1:], state.asked, state.rose)


def ask(state, name, one, other, extra):
    check_word(name)
    if name in state.asked:
        raise Asked("a question of this name stands already")
    check_claim(state, one, other, extra)
    check_six(state.asked)
    return asking(state, {**state.asked, name: (tuple(one), tuple(other), extra)})


def close(state, name):
    check_question(state, name)
    return asking(state, {other: state.asked[other] for other in state.asked if other != name})


def has_form(deed):
    """A tuple with the name and the length of a deed other than an attempt."""
    if not isinstance(deed, tuple) or len(deed) == 0 or not isinstance(deed[0], str):
        return False
    return deed[0] in LENGTHS and len(deed) == LENGTHS[deed[0]]


def after_one(state, deed):
    """What stands behind a deed that has the form of one."""
    word, parts = deed[0], deed[1:]
    if word == "place":
        return place(state, *parts)
    if word == "move":
        return move(state, *parts)
    if word == "drop":
        return drop(state, *parts)
    if word == "told":
        return told(state, *parts)
    if word == "fact":
        return fact(state, *parts)
    if word == "forget":
        return forget(state, *parts)
    return ask(state, *parts) if word == "ask" else close(state, *parts)


def attempt(state, deeds):
    if not is_list(deeds) or len(deeds) == 0 or not all([has_form(deed) for deed in deeds]):
        raise BadDeeds("deeds are a list of one or more tuples that have the form of a deed other than an attempt")
    for at, deed in enumerate(deeds):
        try:
            state = after_one(state, deed)
        except RoseError as why:
            raise Failed(at) from why
    return state


def after(state, deed):
    """What stands behind a deed, told as in a log."""
    if deed[0] != "attempt":
        return after_one(state, deed)
    return attempt(state, deed[1])


def logged(deed):
    """A deed that was done, with tuples at every depth."""
    if deed[0] == "attempt":
        return "attempt", tuple([logged(part) for part in deed[1]])
    return tuple([tuple(part) if isinstance(part, list) else part for part in deed])
