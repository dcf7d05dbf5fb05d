"""Rows of numbers and tables of rows."""

from pacerose.errors import BadRow, BadTable
from pacerose.forms import is_row, is_row_of, is_table
from pacerose.vectors import divisor, inner, led_by, made_determinant, made_product, reduced


def check_row(row):
    if not is_row(row):
        raise BadRow("a row is a tuple of 1 to 60 numbers")


def check_table(table):
    if not is_table(table):
        raise BadTable("a table is a tuple of rows, as many as each of them is long")


def dot(one, other):
    check_row(one)
    check_row(other)
    if len(one) != len(other):
        raise BadRow("the rows are of unlike lengths")
    return inner(one, other)


def plain(row):
    check_row(row)
    return divisor(row), reduced(row)


def led(table, row):
    check_table(table)
    if not is_row_of(row, len(table)):
        raise BadRow("the row is not as long as those of the table")
    return led_by(table, row)


def table_product(one, other):
    check_table(one)
    check_table(other)
    if len(one) != len(other):
        raise BadTable("the tables are of unlike lengths")
    return made_product(one, other)


def determinant(table):
    check_table(table)
    if len(table) > 6:
        raise BadTable("the table has more than six rows")
    return made_determinant(table)
