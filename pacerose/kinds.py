"""Kinds: the tables by which a rose may be turned without a change."""

from pacerose.errors import BadKind, BadSize, BadStep, BadTables, TooMany
from pacerose.forms import is_list, is_row_of, is_size, is_table_of
from pacerose.vectors import led_by, made_determinant, made_product, times, unit_table


def check_size(size):
    if not is_size(size):
        raise BadSize("a size is 1, 2 or 3")


def check_kind(kind):
    if not isinstance(kind, Kind):
        raise BadKind("this is no kind")


def is_whole_table(table, size):
    """A table of this size that some whole table undoes."""
    return is_table_of(table, size) and abs(made_determinant(table)) == 1


def all_products(size, tables):
    unit = unit_table(size)
    found, fresh = {unit: True}, [unit]
    while len(fresh) > 0:
        table = fresh.pop()
        for factor in tables:
            told = made_product(factor, table)
            if told not in found:
                found[told] = True
                fresh.append(told)
        # Products that never end are given up here.
        if len(found) > 48:
            raise TooMany(48)
    return tuple(sorted(list(found)))


class Kind:
    """A size and all products of some tables, ascending."""

    def __init__(self, size, tables):
        check_size(size)
        if not is_list(tables) or not all([is_whole_table(table, size) for table in tables]):
            raise BadTables("tables are a list of tables of size rows with the determinant 1 or -1")
        self.size = size
        self.tables = all_products(size, tables)

    def __eq__(self, other):
        return isinstance(other, Kind) and self.size == other.size and self.tables == other.tables

    def __len__(self):
        return len(self.tables)


def plain_kind(size):
    return Kind(size, [])


def mirror_kind(size):
    check_size(size)
    return Kind(size, [tuple([times(-1, row) for row in unit_table(size)])])


def led_images(kind, step):
    """The ascending list of the different rows to which the tables lead a right step."""
    return sorted(set([led_by(table, step) for table in kind.tables]))


def step_images(kind, step):
    check_kind(kind)
    if not is_row_of(step, kind.size):
        raise BadStep("a step is a row of size numbers")
    return led_images(kind, step)


def is_wider(one, other):
    check_kind(one)
    check_kind(other)
    return one.size == other.size and all([table in other.tables for table in one.tables])
