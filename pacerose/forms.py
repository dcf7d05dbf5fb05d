"""What a value is: each of these may be asked of any value and never raises."""

from math import gcd


def is_number(thing):
    return isinstance(thing, int) and not isinstance(thing, bool)


def is_list(thing):
    return isinstance(thing, (list, tuple))


def is_scale(thing):
    return is_number(thing) and thing >= 1


def is_count(thing):
    return is_number(thing) and thing >= 0


def is_size(thing):
    return is_number(thing) and 1 <= thing <= 3


def is_pair(thing):
    return isinstance(thing, tuple) and len(thing) == 2


def is_row(thing):
    return isinstance(thing, tuple) and 1 <= len(thing) <= 60 and all([is_number(number) for number in thing])


def is_row_of(thing, many):
    """A row of just so many numbers: with a size for many, this is a step."""
    return isinstance(thing, tuple) and len(thing) == many and all([is_number(number) for number in thing])


def are_counts(thing, many):
    return isinstance(thing, tuple) and len(thing) == many and all([is_count(number) for number in thing])


def are_rows_of(thing, many):
    return is_list(thing) and all([is_row_of(row, many) for row in thing])


def are_rows(thing):
    """A list of rows of one length."""
    if not is_list(thing):
        return False
    return len(thing) == 0 or (is_row(thing[0]) and are_rows_of(thing, len(thing[0])))


def is_row_beside(thing, rows):
    """A row as long as each of the rows, of any length if there are none."""
    return is_row(thing) and (len(rows) == 0 or len(thing) == len(rows[0]))


def is_table(thing):
    if not isinstance(thing, tuple) or not 1 <= len(thing) <= 60:
        return False
    return all([is_row_of(row, len(thing)) for row in thing])


def is_table_of(thing, many):
    return is_table(thing) and len(thing) == many


def is_ratio(thing):
    return is_row_of(thing, 2) and thing[1] >= 1 and gcd(thing[0], thing[1]) == 1


def is_index(thing, many):
    """The index of one of so many things."""
    return is_number(thing) and 0 <= thing < many


def is_lot(thing, many):
    """An ascending tuple of different indexes."""
    if not isinstance(thing, tuple) or not all([is_index(index, many) for index in thing]):
        return False
    return all([here < after for here, after in zip(thing, thing[1:])])


def is_word(thing):
    """One to eight letters from a to z."""
    return isinstance(thing, str) and 1 <= len(thing) <= 8 and all(["a" <= letter <= "z" for letter in thing])
