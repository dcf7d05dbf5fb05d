"""Winds: a mirrored rose and a drift, by which one way takes longer and the way back as much less."""

from pacerose.errors import BadDrift, BadRose, BadRow, BadWind
from pacerose.forms import is_row_of
from pacerose.kinds import mirror_kind
from pacerose.roses import Rose, check_rose, check_scale, check_step, hull_corners, keeps_rose, top
from pacerose.sums import added
from pacerose.trips import check_trip, whole_time
from pacerose.vectors import inner, lowest, minus, plus, scaled_down, times, unit_row, unit_table, zeros
from pacerose.ways import blend_and_beyond, blends_and_slower


class Wind:
    """A rose that the mirror kind keeps, and a row over a scale: the dot with a step is its drift."""

    def __init__(self, rose, scale, row):
        if not isinstance(rose, Rose) or not keeps_rose(mirror_kind(rose.size), rose):
            raise BadRose("this is no mirrored rose")
        check_scale(scale)
        if not is_row_of(row, rose.size):
            raise BadRow("the row is not as long as the steps of the rose")
        step = blend_and_beyond(rose, scale, times(-1, row))[1]
        if step is not None:
            raise BadDrift(step)
        self.rose = rose
        self.scale, self.row = scaled_down(scale, row)

    def __eq__(self, other):
        if not isinstance(other, Wind):
            return False
        return self.rose == other.rose and self.scale == other.scale and self.row == other.row


def check_wind(wind):
    if not isinstance(wind, Wind):
        raise BadWind("this is no wind")


def windy(wind, time, height):
    """The time, times the scale of the rose, and the height, times that of the drift, together."""
    return lowest(time * wind.scale + height * wind.rose.scale, wind.rose.scale * wind.scale)


def total_of(wind, trip):
    return windy(wind, whole_time(wind.rose, trip), sum([count * inner(wind.row, step) for step, count in trip]))


def check_wind_and_step(wind, step):
    check_wind(wind)
    check_step(wind.rose.size, step)


def wind_going(wind, step):
    check_wind_and_step(wind, step)
    return windy(wind, top(wind.rose, step), inner(wind.row, step))


def wind_total(wind, trip):
    check_wind(wind)
    check_trip(wind.rose.size, trip)
    return total_of(wind, trip)


def drift(wind, step):
    check_wind_and_step(wind, step)
    return lowest(inner(wind.row, step), wind.scale)


def made_blown(wind):
    rose, shift = wind.rose, times(wind.rose.scale, wind.row)
    rows = [plus(times(wind.scale, corner), shift) for corner in hull_corners(rose)]
    return Rose(rose.size, rose.scale * wind.scale, rows)


def blown(wind):
    check_wind(wind)
    return made_blown(wind)


def mirrored_middle(rose):
    """The sum of the least and the greatest corner: if the hull is mirrored at all, then at half of this."""
    corners = hull_corners(rose)
    return plus(corners[0], corners[-1])


def made_wind(rose):
    corners, middle = hull_corners(rose), mirrored_middle(rose)
    # A hull turned about has its corners in the opposite order.
    if not all([plus(one, other) == middle for one, other in zip(corners, corners[::-1])]):
        return None
    rows = [minus(times(2, corner), middle) for corner in corners]
    return Wind(Rose(rose.size, 2 * rose.scale, rows), 2 * rose.scale, middle)


def wind_of(rose):
    check_rose(rose)
    return made_wind(rose)


def turned_about(rose):
    return Rose(rose.size, rose.scale, [times(-1, row) for row in rose.rows])


def leaning(rose, step):
    """How much longer going by the step takes than going back, times the scale."""
    return top(rose, step) - top(rose, times(-1, step))


def unlike_step(rose):
    """A step whose leaning is not the sum of those along the axes: there is one."""
    size, back = rose.size, turned_about(rose)
    row = tuple([leaning(rose, unit_row(size, k)) for k in range(size)])
    # What takes the absolute dot with the row on the one side takes twice the dot, but not below 0, on the other.
    one = added(rose, Rose(size, rose.scale, [row, times(-1, row)]))
    other = added(back, Rose(size, rose.scale, [times(2, row)]))
    step = blends_and_slower(one, other)[1]
    return blends_and_slower(other, one)[1] if step is None else step


def made_lopsided(rose):
    reached = zeros(rose.size)
    for axis, number in zip(unit_table(rose.size), unlike_step(rose)):
        part = times(number, axis)
        after = plus(reached, part)
        if leaning(rose, reached) + leaning(rose, part) != leaning(rose, after):
            return reached, part, times(-1, after)
        reached = after
    return None


def lopsided(rose):
    check_rose(rose)
    return made_lopsided(rose) if made_wind(rose) is None else None


def is_lopsided(rose, thing):
    check_rose(rose)
    if not isinstance(thing, tuple) or len(thing) != 3 or not all([is_row_of(step, rose.size) for step in thing]):
        return False
    if plus(plus(thing[0], thing[1]), thing[2]) != zeros(rose.size):
        return False
    return sum([leaning(rose, step) for step in thing]) != 0
