"""Whether one walk never takes longer than another one, with any counts of their loops or with high ones."""

from pacerose.errors import BadCount
from pacerose.facts import check_kind_and_facts
from pacerose.kinds import check_kind
from pacerose.routes import weights_and_outrun
from pacerose.searches import Search
from pacerose.trips import whole_time
from pacerose.vectors import unit_row
from pacerose.walks import Walk, check_any_walk, check_many, check_walk, is_short_count, lists_within, parts_of
from pacerose.walks import route_sums


def check_two_walks(kind, one, other):
    check_walk(kind.size, one)
    check_walk(kind.size, other)


def paired_parts(one, other):
    """For "" and each name the pair of both parts; a walk that lacks a name has the trip of nothing there."""
    here, there = parts_of(one), parts_of(other)
    return {name: (here.get(name, [()]), there.get(name, [()])) for name in sorted(set(list(here) + list(there)))}


def checked_parts(kind, facts, one, other):
    check_kind_and_facts(kind, facts)
    check_two_walks(kind, one, other)
    return paired_parts(one, other)


def first_outrun(kind, facts, paired):
    """The first name in whose part one does not keep up, with a rose that shows it; None if there is none."""
    for name in paired:
        ones, others = paired[name]
        for route in others:
            rose = None if route in ones else weights_and_outrun(kind, facts, ones, [route])[1]
            if rose is not None:
                return name, rose
    return None


def always(kind, facts, one, other):
    return first_outrun(kind, facts, checked_parts(kind, facts, one, other)) is None


def walk_papers(kind, facts, one, other):
    paired, found = checked_parts(kind, facts, one, other), {}
    for name in paired:
        ones, others = paired[name]
        told = []
        for route in others:
            weights = weights_and_outrun(kind, facts, ones, [route])[0]
            if weights is None:
                return None
            told.append(weights)
        found[name] = tuple(told)
    return found


def least_of(rose, routes):
    return min([whole_time(rose, route) for route in routes])


def lead(rose, both):
    """How much longer one takes by its quickest route of a part than other by its own, times the scale."""
    return least_of(rose, both[0]) - least_of(rose, both[1])


def slower(kind, facts, one, other):
    paired = checked_parts(kind, facts, one, other)
    found = first_outrun(kind, facts, paired)
    if found is None:
        return None
    slow, rose = found
    counts = {name: 0 for name in paired if name != ""}
    if slow != "":
        # So often that the loops make up for what one may be ahead without them.
        counts[slow] = max(0, -lead(rose, paired[""]) // lead(rose, paired[slow]) + 1)
    return rose, counts


def ahead_of_loops(rows, number):
    found = []
    for row in rows:
        if row[0] == "loops":
            found.append(("times", number, row[2]))
            found.append(row)
        elif row[0] in ("go", "best"):
            found.append(row)
        else:
            found.append((*row[:-1], ahead_of_loops(lists_within(row)[0], number)))
    return found


def ahead(walk, number):
    check_any_walk(walk)
    if not is_short_count(number):
        raise BadCount("a count is a number from 0 on of at most 400 digits")
    return Walk(walk.size, ahead_of_loops(walk.rows, number))


def chosen_sums(paired):
    """All different sums of one route of other for each name."""
    found = [()]
    for name in paired:
        if name != "":
            found = route_sums(found, paired[name][1])
    return found


def enough_loops(kind, paired, route, loops):
    """How often loops have to be made at least so that one keeps up with the route and these loops.

    A pair of this number and None, or of None and a rose in which no number is enough. The tails: the routes
    outside of loops count once together, those of each name as often as the loops.
    """
    names, terms = [name for name in paired if name != ""], []
    many = 1 + len(names)
    for at, name in enumerate(["", *names]):
        terms.extend([(one, (), unit_row(many, at)) for one in paired[name][0]])
    terms.append(((), loops, (0, *[-1 for _ in names])))
    search = Search(kind, terms, ((), route, unit_row(many, 0)))
    found = search.least([0] * (len(terms) - 1) + [1])
    if found[0] == "none":
        return None, search.priced_rose(1, found[1])
    scale, counts = found[1]
    return -(-counts[len(terms) - 1] // scale), None


def number_and_rose(kind, one, other):
    """The pair of the least number that is enough and None, or of None and a rose against all numbers."""
    check_kind(kind)
    check_two_walks(kind, one, other)
    paired = paired_parts(one, other)
    many = 1
    for name in paired:
        many *= len(paired[name][1])
    check_many(many)
    failed = first_outrun(kind, [], {name: paired[name] for name in paired if name != ""})
    if failed is not None:
        return None, failed[1]
    most = 0
    for loops in chosen_sums(paired):
        for route in paired[""][1]:
            number, rose = enough_loops(kind, paired, route, loops)
            if rose is not None:
                return None, rose
            most = max(most, number)
    return most, None


def when(kind, one, other):
    return number_and_rose(kind, one, other)[0]


def against(kind, one, other):
    return number_and_rose(kind, one, other)[1]
