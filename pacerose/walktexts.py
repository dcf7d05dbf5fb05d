"""Walks as texts: a line for each row, those within rows further in."""

from pacerose.errors import BadText
from pacerose.forms import is_count, is_word
from pacerose.kinds import check_size
from pacerose.numerals import read_number, read_numbers, words_of
from pacerose.walks import Walk, check_any_walk

FIGURES = 400


def head_words(row):
    """The words of the line of a row."""
    if row[0] == "go":
        return ["go", *words_of(row[1])]
    if row[0] == "led":
        return ["led", *words_of([number for line in row[1] for number in line])]
    return [row[0]] if len(row) == 2 else [row[0], str(row[1])]


def lines_of(rows, blanks):
    found = []
    for row in rows:
        found.append(blanks + " ".join(head_words(row)))
        if row[0] == "best":
            for way in row[1]:
                found.append(blanks + "  way")
                found.extend(lines_of(way, blanks + "    "))
        elif row[0] != "go":
            found.extend(lines_of(row[-1], blanks + "  "))
    return found


def walk_text(walk):
    check_any_walk(walk)
    return "\n".join(lines_of(walk.rows, ""))


class Level:
    """A list of rows that may go on: how many blanks are ahead of its rows, how deep they stand.

    In a best row these are the rows of its last way; rows is None before the first one.
    """

    def __init__(self, blanks, deep, loose, rows, ways):
        self.blanks = blanks
        self.deep = deep
        self.loose = loose
        self.rows = rows
        self.ways = ways


class Reader:
    """Takes line by line; the levels are those of the rows in which the last line stands."""

    def __init__(self, size):
        self.size = size
        self.many = 0
        self.rows = []
        self.levels = [Level(0, 1, True, self.rows, None)]

    def waits(self):
        """Whether a way must follow."""
        return self.levels[-1].rows is None

    def leave(self, blanks):
        """Leave all levels further in; whether there is one with just so many blanks."""
        while self.levels[-1].blanks > blanks:
            self.levels.pop()
        return self.levels[-1].blanks == blanks

    def take(self, line):
        """Whether the line can stand here; if so, it is taken."""
        blanks = len(line) - len(line.lstrip(" "))
        if line[blanks:] == "way":
            return self.take_way(blanks)
        if self.waits() or self.many == 200 or not self.leave(blanks) or self.levels[-1].deep > 8:
            return False
        return self.take_row(line[blanks:].split(" "))

    def take_way(self, blanks):
        if self.waits() and self.levels[-1].blanks != blanks + 2:
            return False
        if not self.leave(blanks + 2) or self.levels[-1].ways is None:
            return False
        level = self.levels[-1]
        level.rows = []
        level.ways.append(level.rows)
        return True

    def take_row(self, words):
        level = self.levels[-1]
        row = self.row_of(words, level.loose)
        if row is None:
            return False
        level.rows.append(row)
        self.many += 1
        if words[0] == "best":
            self.levels.append(Level(level.blanks + 4, level.deep + 1, False, None, row[1]))
        elif words[0] != "go":
            loose = level.loose and words[0] != "loops"
            self.levels.append(Level(level.blanks + 2, level.deep + 1, loose, row[-1], None))
        return True

    def row_of(self, words, loose):
        """The row of which these are the words, without what stands in it; None if there is none."""
        word, told = words[0], words[1:]
        if word in ("back", "best"):
            return (word, []) if len(told) == 0 else None
        if word == "go":
            numbers = read_numbers(told, FIGURES)
            return ("go", numbers) if numbers is not None and len(told) == self.size else None
        if word == "led":
            return self.led_row(read_numbers(told, FIGURES))
        if len(told) != 1:
            return None
        if word == "times":
            number = read_number(told[0], FIGURES)
            return ("times", number, []) if is_count(number) else None
        return ("loops", told[0], []) if word == "loops" and loose and is_word(told[0]) else None

    def led_row(self, numbers):
        size = self.size
        if numbers is None or len(numbers) != size * size:
            return None
        return "led", tuple([numbers[size * k:size * (k + 1)] for k in range(size)]), []


def read_walk(size, text):
    check_size(size)
    if not isinstance(text, str):
        raise BadText(0)
    lines, reader = text.split("\n") if text != "" else [], Reader(size)
    for at, line in enumerate(lines):
        if not reader.take(line):
            raise BadText(at + 1)
    if reader.waits():
        raise BadText(len(lines) + 1)
    return Walk(size, reader.rows)
