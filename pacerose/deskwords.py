"""Errands and deeds as words in lines."""

from math import gcd

from pacerose.atlasdeeds import has_form
from pacerose.errands import is_high, right_errand
from pacerose.errors import BadDeed, BadErrand, BadText
from pacerose.forms import is_count, is_ratio, is_row_of, is_word
from pacerose.numerals import read_number, read_numbers, words_of

FIGURES = 9
MOST = 10 ** 9


def are_small(numbers):
    """Whether the numbers have at most nine figures."""
    return all([-MOST < number < MOST for number in numbers])


def is_small_ratio(thing):
    return is_ratio(thing) and are_small(thing)


def is_small_errand(thing):
    return right_errand(thing) and are_small([count for _, _, count in thing])


def is_small_claim(one, other, extra):
    """Three parts as they stand in a log: errands are tuples there."""
    if not isinstance(one, tuple) or not isinstance(other, tuple):
        return False
    return is_small_errand(one) and is_small_errand(other) and is_small_ratio(extra)


def is_small_told(errand, low, high):
    if not isinstance(errand, tuple) or not is_small_errand(errand) or not is_small_ratio(low):
        return False
    return high is None or (is_small_ratio(high) and is_high(high, low))


def is_small_step(thing):
    return isinstance(thing, tuple) and 1 <= len(thing) <= 3 and is_row_of(thing, len(thing)) and are_small(thing)


def right_one(deed):
    """Of any value: whether it is right as a deed of the log other than an attempt."""
    if not has_form(deed):
        return False
    word, parts = deed[0], deed[1:]
    if word in ("place", "move"):
        return is_word(parts[0]) and is_small_step(parts[1])
    if word in ("drop", "close"):
        return is_word(parts[0])
    if word == "told":
        return is_small_told(*parts)
    if word == "fact":
        return is_small_claim(*parts)
    if word == "forget":
        return is_count(parts[0]) and are_small(parts)
    return is_word(parts[0]) and is_small_claim(parts[1], parts[2], parts[3])


def right_deed(deed):
    if right_one(deed):
        return True
    if not isinstance(deed, tuple) or len(deed) != 2 or not isinstance(deed[0], str) or deed[0] != "attempt":
        return False
    return isinstance(deed[1], tuple) and len(deed[1]) > 0 and all([right_one(part) for part in deed[1]])


def ratio_text(ratio):
    above, below = ratio
    return str(above) if below == 1 else f"{above}/{below}"


def triple_text(triple):
    start, stop, count = triple
    return f"{start}-{stop}" if count == 1 else f"{count}*{start}-{stop}"


def told_errand(errand):
    return "+".join([triple_text(triple) for triple in errand]) if len(errand) > 0 else "none"


def errand_text(errand):
    if not is_small_errand(errand):
        raise BadErrand("this is no errand, or one with a number of more than nine figures")
    return told_errand(errand)


def words_of_deed(deed):
    word, parts = deed[0], deed[1:]
    if word in ("place", "move"):
        return [word, parts[0], *words_of(parts[1])]
    if word == "told":
        errand, low, high = parts
        return [word, told_errand(errand), ratio_text(low), "-" if high is None else ratio_text(high)]
    if word == "fact":
        return [word, told_errand(parts[0]), told_errand(parts[1]), ratio_text(parts[2])]
    if word == "ask":
        return [word, parts[0], told_errand(parts[1]), told_errand(parts[2]), ratio_text(parts[3])]
    return [word, str(parts[0])]


def line_of(deed):
    if deed[0] == "attempt":
        return "attempt " + " ; ".join([line_of(part) for part in deed[1]])
    return " ".join(words_of_deed(deed))


def deed_text(deed):
    if not right_deed(deed):
        raise BadDeed("this is no deed of a log, or one with a number of more than nine figures")
    return line_of(deed)


def found_ratio(word):
    """The ratio of which the word is the text; None for any other word."""
    numbers = read_numbers(word.split("/"), FIGURES)
    if numbers is None or len(numbers) > 2:
        return None
    if len(numbers) == 1:
        return numbers[0], 1
    above, below = numbers
    return (above, below) if below > 1 and gcd(above, below) == 1 else None


def found_triple(word):
    count, star, way = word.partition("*")
    if star == "":
        count, way = "1", word
    number, ends = read_number(count, FIGURES), way.split("-")
    # A count of 1 is not written.
    if number is None or number < 1 or (star != "" and number == 1):
        return None
    return (ends[0], ends[1], number) if len(ends) == 2 and all([is_word(end) for end in ends]) else None


def found_errand(text):
    """The errand of which this is the text; None for any other text."""
    if text == "none":
        return ()
    found = tuple([found_triple(word) for word in text.split("+")])
    return found if None not in found and len(found) <= 6 else None


def read_errand(text):
    found = found_errand(text) if isinstance(text, str) else None
    if found is None:
        raise BadText(None)
    return found


def found_parts(word, told):
    """The parts of a deed of this name from its other words; they may be wrong."""
    if word in ("place", "move"):
        return [told[0], read_numbers(told[1:], FIGURES)]
    if word == "told" and len(told) == 3:
        return [found_errand(told[0]), found_ratio(told[1]), None if told[2] == "-" else found_ratio(told[2])]
    if word == "fact" and len(told) == 3:
        return [found_errand(told[0]), found_errand(told[1]), found_ratio(told[2])]
    if word == "ask" and len(told) == 4:
        return [told[0], found_errand(told[1]), found_errand(told[2]), found_ratio(told[3])]
    return [read_number(told[0], FIGURES)] if word == "forget" else told


def found_one(line):
    words = line.split(" ")
    deed = (words[0], *found_parts(words[0], words[1:])) if len(words) > 1 else ()
    # What is read has to be told by just this line: so nothing is taken that is not written so.
    return deed if right_one(deed) and line_of(deed) == line else None


def found_deed(line):
    """The deed of which the line is the text; None for any other line."""
    word, _, told = line.partition(" ")
    if word != "attempt":
        return found_one(line)
    found = tuple([found_one(part) for part in told.split(" ; ")])
    return ("attempt", found) if None not in found else None


def read_deed(line):
    found = found_deed(line) if isinstance(line, str) else None
    if found is None:
        raise BadText(None)
    return found
