"""Whether one trip is never longer than another, and a rose that shows the contrary."""

from pacerose.kinds import check_kind, led_images
from pacerose.roses import Rose, keeps_rose, led_rows
from pacerose.shares import check_two_trips, shares_and_dam
from pacerose.trips import check_trip, gathered, whole_time
from pacerose.vectors import reduced


def rose_of_dam(kind, many, dammed):
    """The rose that the kind keeps with the first prices of a dam as rows: one for each of so many steps."""
    size = kind.size
    prices = reduced(dammed[:size * many])
    rows = [prices[size * i:size * (i + 1)] for i in range(many)]
    turned = []
    for table in kind.tables:
        turned.extend(led_rows(table, rows))
    return Rose(size, 1, turned)


def bar(kind, one, other):
    check_two_trips(kind, one, other)
    dammed = shares_and_dam(kind, one, other)[1]
    return None if dammed is None else rose_of_dam(kind, len(one), dammed)


def is_bar(kind, one, other, thing):
    check_two_trips(kind, one, other)
    if not isinstance(thing, Rose) or not keeps_rose(kind, thing):
        return False
    return whole_time(thing, one) > whole_time(thing, other)


def is_never_longer(kind, one, other):
    return shares_and_dam(kind, one, other)[1] is None


def never_longer(kind, one, other):
    check_two_trips(kind, one, other)
    return is_never_longer(kind, one, other)


def made_folded(kind, told):
    return gathered([(led_images(kind, step)[0], count) for step, count in told])


def folded(kind, trip):
    check_kind(kind)
    check_trip(kind.size, trip)
    return made_folded(kind, trip)


def compared(kind, one, other):
    check_two_trips(kind, one, other)
    if made_folded(kind, one) == made_folded(kind, other):
        return "alike"
    if is_never_longer(kind, one, other):
        return "never longer"
    return "never shorter" if is_never_longer(kind, other, one) else "open"
