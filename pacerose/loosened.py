"""How far a log has to give way until it has a keeper, and which of its entries do not go together."""

from itertools import combinations

from pacerose.errors import BadRatio
from pacerose.forms import is_ratio
from pacerose.kinds import check_size
from pacerose.logs import Book, check_book, check_log, entries_of
from pacerose.simplex import solved
from pacerose.vectors import compare, inner, lowest, reduced, zeros


def check_from(ratio, least):
    if not is_ratio(ratio) or compare(ratio, least) < 0:
        raise BadRatio("this is no ratio, or one too low")


def less(time, slack):
    """The time less the slack, but not below 0."""
    above = time[0] * slack[1] - slack[0] * time[1]
    return lowest(above, time[1] * slack[1]) if above > 0 else (0, 1)


def more(time, slack):
    return lowest(time[0] * slack[1] + slack[0] * time[1], time[1] * slack[1])


def many_fold(time, factor):
    return lowest(time[0] * factor[0], time[1] * factor[1])


def loosened(size, log, slack):
    check_size(size)
    check_log(size, log)
    check_from(slack, (0, 1))
    found = {}
    for step, low, high in entries_of(log):
        found[step] = (less(low, slack), None if high is None else more(high, slack))
    return found


def stretched(size, log, factor):
    check_size(size)
    check_log(size, log)
    check_from(factor, (1, 1))
    found = {}
    for step, low, high in entries_of(log):
        found[step] = (low, None if high is None else many_fold(high, factor))
    return found


def tightest_way(book, j):
    """A way to the step of an entry that tells most of the slack, with that slack; None if none tells any.

    The entry once and its ways' counts together make 1: so the slack is what is to be greatest.
    """
    columns = [image + [(book.kind.size, 1)] for image in book.columns]
    own = [(k, -number) for k, number in enumerate(book.entries[j][0]) if number != 0]
    columns.append(own + [(book.kind.size, 1)])
    costs = [*book.costs, -book.lows[j]]
    found = solved(columns, costs, (*zeros(book.kind.size), 1))
    if found[0] == "none":
        return None
    scale, counts = found[1]
    gain = -inner(counts, costs)
    if gain <= 0:
        return None
    told = reduced((counts[-1], *counts[:-1]))
    return (told[0], told[1:]), lowest(gain, scale * book.unit)


def least_slack_and_way(book):
    slack, way = (0, 1), None
    for j in book.told():
        found = tightest_way(book, j)
        if found is not None and compare(found[1], slack) > 0:
            slack, way = found[1], (j, found[0])
    return slack, way


def least_slack(kind, log):
    return least_slack_and_way(check_book(kind, log))[0]


def slack_way(kind, log):
    return least_slack_and_way(check_book(kind, log))[1]


def least_stretch_and_way(book):
    """The pair of the least factor, None if there is none, and of the entry with its way that tells it."""
    factor, way = (1, 1), None
    for j in book.told():
        found = book.fastest(book.entries[j][0])
        if found[0] == "none":
            continue
        time = book.time(found[1])
        if time[0] == 0:
            return None, (j, found[1])
        low = book.entries[j][1]
        told = lowest(low[0] * time[1], low[1] * time[0])
        if compare(told, factor) > 0:
            factor, way = told, (j, found[1])
    return factor, way


def least_stretch(kind, log):
    return least_stretch_and_way(check_book(kind, log))[0]


def stretch_way(kind, log):
    return least_stretch_and_way(check_book(kind, log))[1]


def part_of(kind, entries, lot):
    """The book of just the entries with these indexes."""
    return Book(kind, {entries[j][0]: entries[j][1:] for j in lot})


def has_no_keeper(book):
    return book.first_shortcut() is not None


def all_clashes(book):
    if not has_no_keeper(book):
        return []
    found = []
    # A shortcut needs no more entries than the size: so no clash has more than one above that.
    for many in range(1, book.kind.size + 2):
        for lot in combinations(range(len(book.entries)), many):
            if any([all([j in lot for j in clash]) for clash in found]):
                continue
            if has_no_keeper(part_of(book.kind, book.entries, lot)):
                found = found + [lot]
    return sorted(found)


def clashes(kind, log):
    return all_clashes(check_book(kind, log))


def first_hitting(clashing, many):
    """The first of the shortest tuples that share an index with each of these."""
    for length in range(many + 1):
        for lot in combinations(range(many), length):
            if all([any([j in lot for j in clash]) for clash in clashing]):
                return lot
    return tuple(list(range(many)))


def taken_back(kind, log):
    book = check_book(kind, log)
    return first_hitting(all_clashes(book), len(book.entries))
