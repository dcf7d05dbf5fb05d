"""Errands and claims of an atlas, by themselves: whatever words stand."""

from pacerose.forms import is_list, is_scale, is_word


def is_triple(thing):
    """Two words and a number from 1 on."""
    if not isinstance(thing, tuple) or len(thing) != 3:
        return False
    return is_word(thing[0]) and is_word(thing[1]) and is_scale(thing[2])


def right_errand(thing):
    return is_list(thing) and len(thing) <= 6 and all([is_triple(triple) for triple in thing])


def words_in(errand):
    return [word for triple in errand for word in triple[:2]]


def is_high(thing, low):
    """None, or a number pair not below low: both are known to be ratios."""
    return thing is None or thing[0] * low[1] >= low[0] * thing[1]
