"""Walks: programs of rows, some of which are gone as often as is open."""

from pacerose.errors import BadCounts, BadRows, BadWalk, TooMany
from pacerose.facts import led_trip
from pacerose.forms import is_count, is_list, is_row_of, is_table_of, is_word
from pacerose.kinds import check_size
from pacerose.roses import check_rose, top
from pacerose.trips import gathered, many_times
from pacerose.vectors import led_by, lowest, made_product, times, unit_table

# Numbers of a walk are below this, so that they have at most 400 digits.
LONGEST = (10 ** 50) ** 8


def are_short(numbers):
    return all([-LONGEST < number < LONGEST for number in numbers])


def is_short_count(thing):
    return is_count(thing) and thing < LONGEST


def is_short_table(thing, size):
    return is_table_of(thing, size) and all([are_short(row) for row in thing])


def right_rows(size, rows, deep, loose):
    """Whether rows may stand so deep; loose tells whether there may be loops among them."""
    return is_list(rows) and all([deep <= 8 and right_row(size, row, deep, loose) for row in rows])


def right_row(size, row, deep, loose):
    if not isinstance(row, tuple) or len(row) < 2 or not isinstance(row[0], str):
        return False
    word, last = row[0], row[-1]
    if len(row) == 2:
        if word == "go":
            return is_row_of(last, size) and are_short(last)
        if word == "best":
            return is_list(last) and len(last) > 0 and all([right_rows(size, way, deep + 1, False) for way in last])
        return word == "back" and right_rows(size, last, deep + 1, loose)
    if len(row) > 3 or not right_head(size, word, row[1], loose):
        return False
    return right_rows(size, last, deep + 1, loose and word != "loops")


def right_head(size, word, told, loose):
    """Whether what is told ahead of the rows of a row is right."""
    if word == "led":
        return is_short_table(told, size)
    if word == "times":
        return is_short_count(told)
    return word == "loops" and loose and is_word(told)


def lists_within(row):
    """The lists of rows that stand in a right row."""
    if row[0] == "best":
        return list(row[1])
    return [] if row[0] == "go" else [row[-1]]


def many_rows(rows):
    return len(rows) + sum([many_rows(part) for row in rows for part in lists_within(row)])


def tupled(rows):
    """The rows with tuples in the place of all lists."""
    found = []
    for row in rows:
        parts = tuple([tupled(part) for part in lists_within(row)])
        if row[0] == "best":
            found.append(("best", parts))
        else:
            found.append(row if row[0] == "go" else (*row[:-1], parts[0]))
    return tuple(found)


class Walk:
    """Rows that are gone one behind the other."""

    def __init__(self, size, rows):
        check_size(size)
        if not right_rows(size, rows, 1, True):
            raise BadRows("these are no rows of a walk of the size")
        if many_rows(rows) > 200:
            raise TooMany(200)
        self.size = size
        self.rows = tupled(rows)

    def __eq__(self, other):
        return isinstance(other, Walk) and self.size == other.size and self.rows == other.rows


def check_any_walk(walk):
    if not isinstance(walk, Walk):
        raise BadWalk("this is no walk")


def check_walk(size, walk):
    check_any_walk(walk)
    if walk.size != size:
        raise BadWalk("the walk is of another size")


def names_in(rows):
    found = {}
    for row in rows:
        if row[0] == "loops":
            found[row[1]] = True
        for part in lists_within(row):
            found.update(names_in(part))
    return found


def names_of(walk):
    return sorted(list(names_in(walk.rows)))


def names(walk):
    check_any_walk(walk)
    return names_of(walk)


def are_counts_for(thing, wanted):
    """A dict from strings to numbers from 0 on that has all names that are wanted."""
    if not isinstance(thing, dict) or not all([isinstance(name, str) and is_count(thing[name]) for name in thing]):
        return False
    return all([name in thing for name in wanted])


def time_of_rows(rose, table, rows, counts):
    """What rows take, each of their steps led by the table, times the scale of the rose."""
    told = 0
    for row in rows:
        if row[0] == "go":
            told += top(rose, led_by(table, row[1]))
        elif row[0] == "best":
            told += min([time_of_rows(rose, table, way, counts) for way in row[1]])
        elif row[0] == "back":
            told += time_of_rows(rose, tuple([times(-1, line) for line in table]), row[1], counts)
        elif row[0] == "led":
            told += time_of_rows(rose, made_product(table, row[1]), row[2], counts)
        else:
            often = row[1] if row[0] == "times" else counts[row[1]]
            told += often * time_of_rows(rose, table, row[2], counts)
    return told


def walked(rose, walk, counts):
    check_rose(rose)
    check_walk(rose.size, walk)
    if not are_counts_for(counts, names_of(walk)):
        raise BadCounts("counts are a dict with a number from 0 on for each name")
    return lowest(time_of_rows(rose, unit_table(rose.size), walk.rows, counts), rose.scale)


def check_many(many):
    if many > 60:
        raise TooMany(60)


def route_sums(ones, others):
    """All different sums of one of ones and one of others."""
    return sorted(set([gathered(one + other) for one in ones for other in others]))


def routes_of_rows(rows, name):
    """The ascending routes of rows: of what is outside of all loops for "", otherwise of the loops of the name."""
    found = [()]
    for row in rows:
        told = routes_of_row(row, name)
        if told != [()]:
            found = route_sums(found, told)
        # Sums do not get fewer when more rows come, so this is told as soon as it is seen.
        check_many(len(found))
    return found


def routes_of_row(row, name):
    word = row[0]
    if word == "loops":
        return routes_of_rows(row[2], "") if row[1] == name else [()]
    if word in ("go", "best") and name != "":
        return [()]
    if word == "go":
        return [gathered([(row[1], 1)])]
    if word == "best":
        return sorted(set([route for way in row[1] for route in routes_of_rows(way, "")]))
    told = routes_of_rows(row[-1], name)
    if word == "times":
        return sorted(set([many_times(route, row[1]) for route in told]))
    if word == "led":
        return sorted(set([led_trip(row[1], route) for route in told]))
    return sorted(set([gathered([(times(-1, step), count) for step, count in route]) for route in told]))


def parts_of(walk):
    return {name: routes_of_rows(walk.rows, name) for name in ["", *names_of(walk)]}


def parts(walk):
    check_any_walk(walk)
    return parts_of(walk)
