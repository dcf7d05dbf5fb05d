"""What the tests share: seeded numbers, wrong values, and how refusals are checked."""

import copy
import itertools
import os
import random
from fractions import Fraction

from pacerose.kinds import Kind, mirror_kind, plain_kind
from pacerose.roses import Rose

ROOT = os.path.dirname(os.path.dirname(os.path.abspath(__file__)))
PACKAGE = os.path.join(ROOT, "pacerose")
MODULES = """errors rows ratios deals leasts hulls kinds roses ways sums mixes sectors reaches rests trips shares claims
factors logs stretches loosened plane sticks threes fits space facts quarrels following ranges grounds settling tries
routes bests safest walks walkclaims walktexts meeting halving regrets fronts winds rounds
drifts nets flows straights detours moreties atlas deskwords desk atlastexts""".split()
NINE = 999999999
LONG = 10 ** 400 + 7

BAD_NUMBERS = [True, False, 1.0, "1", None, (1,), [1], b"1"]
BAD_SIZES = [0, 4, -1] + BAD_NUMBERS
BAD_SCALES = [0, -1, -LONG] + BAD_NUMBERS
BAD_RATIOS = [(2, 4), (1, 0), (1, -1), (0, 2), (0, 0), (-2, 2), [1, 2], (1,), (1, 2, 3), (True, 1), (1, True), (1.0, 2),
              ("1", 2), (None, 1), None, 1, 0.5, "1/2", (), Fraction(1, 2), ((1, 2), 1)]
BAD_ROSES = [None, 1, "rose", (2, 1, ()), {}, Rose, object(), plain_kind(2), [(1, 0)]]
BAD_KINDS = [None, 1, "kind", (2, ()), {}, Kind, object(), Rose(2, 1, []), [((1, 0), (0, 1))]]
ODD = [None, True, False, 0, 1, -1, LONG, 1.5, float("nan"), float("inf"), "", "none", "least", "endless", "below", "bent",
       b"", b"none", (), [], {}, set(), frozenset(), (1,), (1, ()), (1, []), [1, ()], (0, ()), (True, ()), (1, None),
       (1, 5), (1, (1,)), (1, (0, 0)), (1, ((),)), (1, ((0,),)), ((), ()), ((), (), ()), ("none",), ("none", None),
       ("none", ()), ("least",), ("least", None, None), ("least", (1, ()), (1, ())), ("endless", ()), ("endless", None),
       ("below",), ("below", None), ("below", ()), ("bent",), ("bent", (), ()), ("bent", None, None), ("below", (0, 0)),
       ("bent", (0, 0), (0, 0)), (("below",), (1,)), [()], [[]], [None], {1: 2}, {(): ()}, {(0, 0): (1, ())}, {None: None},
       object(), object, len, Rose, Kind, Rose(1, 1, []), Rose(2, 1, [(1, 0)]), Rose(3, 1, [(1, 0, 0)]), plain_kind(1),
       mirror_kind(2), Fraction(1, 2), range(3), (0, 1), (1, 2), "ab", ("a", "b"), [(1, ()), (1, ())], (0, 0), (0, 0, 0),
       (1.0, 0), ("x", 0), ((1, 0), 0), (0,), 2 + 1j, lambda: None]

UNIT2 = ((1, 0), (0, 1))
QUARTER = ((0, -1), (1, 0))
SWAP = ((0, 1), (1, 0))
SIXTH = ((0, -1), (1, 1))
SHEAR = ((1, 1), (0, 1))


def seeded(seed):
    return random.Random(seed)


def number(r, most):
    return r.randint(-most, most)


def row_of(r, many, most):
    return tuple([number(r, most) for _ in range(many)])


def rows_of(r, many, count, most):
    return [row_of(r, many, most) for _ in range(count)]


def any_most(r):
    return r.choice([1, 1, 2, 3, 5, 12, 100, NINE])


def any_rose(r, size, most=None, rows=None):
    most = any_most(r) if most is None else most
    rows = r.randint(0, 6) if rows is None else rows
    return Rose(size, r.choice([1, 1, 2, 3, 6, r.randint(1, NINE)]), rows_of(r, size, rows, most))


def any_step(r, size, most=None):
    return row_of(r, size, any_most(r) if most is None else most)


def cube_kind():
    """All 48 tables of the cube."""
    return Kind(3, [((0, 1, 0), (1, 0, 0), (0, 0, 1)), ((0, 0, 1), (1, 0, 0), (0, 1, 0)), ((-1, 0, 0), (0, 1, 0), (0, 0, 1))])


def kinds_of(size):
    if size == 1:
        return [plain_kind(1), mirror_kind(1)]
    if size == 2:
        return [plain_kind(2), mirror_kind(2), Kind(2, [SWAP]), Kind(2, [QUARTER]), Kind(2, [QUARTER, SWAP]),
                Kind(2, [SIXTH]), Kind(2, [((-1, 1), (0, 1))]), Kind(2, [SIXTH, SWAP])]
    return [plain_kind(3), mirror_kind(3), Kind(3, [((0, 1, 0), (0, 0, 1), (1, 0, 0))]),
            Kind(3, [((0, -1, 0), (1, 0, 0), (0, 0, 1))]), Kind(3, [((0, 1, 0), (1, 0, 0), (0, 0, -1))]),
            Kind(3, [((-1, 0, 0), (0, 1, 0), (0, 0, 1)), ((1, 0, 0), (0, -1, 0), (0, 0, 1)),
                     ((1, 0, 0), (0, 1, 0), (0, 0, -1))])]


def inner(one, other):
    assert len(one) == len(other)
    return sum(a * b for a, b in zip(one, other))


def plus(one, other):
    return tuple(a + b for a, b in zip(one, other))


def times(k, row):
    return tuple(k * a for a in row)


def led_by(table, row):
    return tuple(inner(line, row) for line in table)


def value(ratio):
    """The fraction of what has to be a ratio in lowest terms."""
    assert isinstance(ratio, tuple) and len(ratio) == 2 and [type(part) for part in ratio] == [int, int], ratio
    told = Fraction(ratio[0], ratio[1])
    assert (told.numerator, told.denominator) == ratio, ratio
    return told


def takes(rose, step):
    """What going by a step takes, by the words of the document."""
    return Fraction(max([0] + [inner(row, step) for row in rose.rows]), rose.scale)


def is_int(thing):
    return type(thing) is int


def is_int_row(thing, many):
    return type(thing) is tuple and len(thing) == many and all(is_int(part) for part in thing)


def without_divisor(numbers):
    import math
    return math.gcd(*numbers) == 1


def other_kinds(thing):
    """Values like this one but for the kind of something in it, or its length: none of them is right."""
    if type(thing) is int:
        yield from [float(thing) if abs(thing) < 10 ** 300 else None, str(thing)[:50], None, (thing,), Fraction(thing)]
        if thing in (0, 1):
            yield bool(thing)
    elif type(thing) in (tuple, list):
        if type(thing) is tuple:
            yield list(thing)
        yield type(thing)([*thing, 0])
        yield type(thing)([*thing, ()])
        if len(thing) > 0:
            yield thing[:-1]
            yield thing[1:]
        yield from [None, set(), dict(enumerate(thing)), str(thing)[:50]]
        for k, part in enumerate(thing):
            for changed in other_kinds(part):
                yield type(thing)([*thing[:k], changed, *thing[k + 1:]])
    elif type(thing) is str:
        yield from [thing + "x", thing.upper(), thing.encode(), None, ""]
    elif type(thing) is dict:
        yield list(thing.items())
        yield tuple(thing)
        for key in thing:
            yield {other: thing[other] for other in thing if other != key}
            for changed in other_kinds(thing[key]):
                yield {**thing, key: changed}
            for k, part in enumerate(key):
                if part in (0, 1):
                    wrong = (*key[:k], bool(part), *key[k + 1:])
                    yield {wrong if other == key else other: thing[other] for other in thing}
                wrong = (*key[:k], float(part) if abs(part) < 2 ** 50 else str(part), *key[k + 1:])
                yield {wrong if other == key else other: thing[other] for other in thing}
            yield {**thing, (*key, 0): thing[key]}
        yield {**thing, None: None}


def other_numbers(thing):
    """Values like this one but for one number: some of them may be right, too."""
    if type(thing) is int:
        yield from [thing + 1, thing - 1, -thing, 2 * thing, 0]
    elif type(thing) in (tuple, list):
        for k, part in enumerate(thing):
            for changed in other_numbers(part):
                yield type(thing)([*thing[:k], changed, *thing[k + 1:]])
    elif type(thing) is dict:
        for key in thing:
            for changed in other_numbers(thing[key]):
                yield {**thing, key: changed}


def check_judge(test, judge, right, oracle):
    """The judge says True for a right value, False for other kinds of it, and what the oracle says for others."""
    test.assertIs(judge(right), True, right)
    for wrong in other_kinds(right):
        test.assertIs(judge(wrong), False, wrong)
    for near in other_numbers(right):
        test.assertIs(judge(near), oracle(near), near)


def check_odd(test, judge, rights=()):
    """The judge says False for values of any kind, other than the rights."""
    for thing in ODD:
        told = judge(thing)
        if not any(type(right) is type(thing) and right == thing for right in rights):
            test.assertIs(told, False, thing)


def fails(test, error, call, *given, **named):
    """The call raises just this error: a class, or a pair of it and its attributes."""
    kind, attributes = error if isinstance(error, tuple) else (error, {})
    try:
        told = call(*given, **named)
    except ValueError as raised:
        test.assertIs(type(raised), kind, (raised, given, named))
        test.assertEqual(vars(raised), attributes)
    else:
        test.fail(f"{call.__name__} told {told!r} of {given!r} {named!r}")


def check_refusals(test, call, good, wrong):
    """Each wrong parameter is refused, by place and by name, and of several the first one in the order of wrong."""
    call(*good.values())
    call(**good)
    for name, values, error in wrong:
        for bad in values:
            given = {**good, name: bad}
            fails(test, error, call, *given.values())
        fails(test, error, call, **{**good, name: values[0]})
    r = seeded(len(good))
    for many in range(2, len(wrong) + 1):
        for chosen in itertools.combinations(wrong, many):
            for _ in range(3):
                given = dict(good)
                for name, values, _ in reversed(chosen):
                    given[name] = r.choice(values)
                fails(test, chosen[0][2], call, *given.values())


def check_pure(test, call, *given):
    """Equal arguments give equal results, tuples in the place of lists, too, and no argument is changed."""
    kept = copy.deepcopy(given)
    told = call(*given)
    test.assertEqual(given, kept)
    test.assertEqual(call(*kept), told)
    turned = [tuple(part) if type(part) is list else part for part in given]
    test.assertEqual(call(*turned), told)
    if isinstance(told, (list, dict)):
        again = call(*given)
        test.assertIsNot(again, told)
        for part in given:
            test.assertIsNot(told, part)
    return told
