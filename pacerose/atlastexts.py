"""Atlases as texts: their kind, and the lines of their deeds."""

from pacerose.atlas import Atlas
from pacerose.deskwords import FIGURES, are_small, deed_text, found_deed
from pacerose.desk import check_atlas
from pacerose.errors import BadDeed, BadText, RoseError
from pacerose.forms import is_size
from pacerose.kinds import Kind, is_whole_table
from pacerose.numerals import read_number, read_numbers, words_of


def table_text(table):
    numbers = [number for line in table for number in line]
    if not are_small(numbers):
        raise BadDeed("a table has a number of more than nine figures")
    return ",".join(words_of(numbers))


def atlas_text(atlas):
    check_atlas(atlas)
    first = " ".join(["begin", str(atlas.kind.size), *[table_text(table) for table in atlas.kind.tables]])
    return "\n".join([first, *[deed_text(deed) for deed in atlas.log()]])


def found_table(word, size):
    """The table of which the word is the text; None for any other word."""
    numbers = read_numbers(word.split(","), FIGURES)
    if numbers is None or len(numbers) != size * size:
        return None
    table = tuple([numbers[size * k:size * (k + 1)] for k in range(size)])
    return table if is_whole_table(table, size) else None


def found_kind(line):
    """The kind of which the line is the text; None for any other line."""
    words = line.split(" ")
    if len(words) < 3 or words[0] != "begin" or len(words) > 50:
        return None
    size = read_number(words[1], 1)
    if not is_size(size):
        return None
    tables = tuple([found_table(word, size) for word in words[2:]])
    if None in tables:
        return None
    try:
        kind = Kind(size, tables)
    except RoseError:
        return None
    return kind if kind.tables == tables else None


def read_atlas(text):
    if not isinstance(text, str):
        raise BadText(None)
    lines = text.split("\n")
    kind = found_kind(lines[0])
    if kind is None:
        raise BadText(1)
    atlas = Atlas(kind)
    for at, line in enumerate(lines[1:]):
        deed = found_deed(line)
        if deed is None:
            raise BadText(at + 2)
        try:
            atlas.carry_out(deed)
        except RoseError:
            raise BadText(at + 2) from None
    return atlas
