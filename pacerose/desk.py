"""A desk: an atlas that is asked, and told, line by line."""

from pacerose.atlas import Atlas
from pacerose.deskwords import found_deed, found_errand, ratio_text
from pacerose.errors import BadAtlas, BadLine, RoseError
from pacerose.forms import is_word
from pacerose.numerals import words_of


def check_atlas(atlas):
    if not isinstance(atlas, Atlas):
        raise BadAtlas("this is no atlas")


def stretch_text(stretch):
    low, high = stretch
    return f"{ratio_text(low)} -" if high is None else f"{ratio_text(low)} {ratio_text(high)}"


def grounds_text(lot):
    if lot is None:
        return "open"
    return ",".join(words_of(lot)) if len(lot) > 0 else "none"


def worth_text(ways):
    return ",".join([f"{start}-{stop}" for start, stop in ways]) if len(ways) > 0 else "none"


def changed_text(table):
    told = [f"{name} {old} to {new}" for name, (old, new) in table.items()]
    return "; ".join(told) if len(told) > 0 else "none"


class Desk:
    def __init__(self, atlas):
        check_atlas(atlas)
        self.atlas = atlas

    def say(self, line):
        if not isinstance(line, str):
            raise BadLine("a line is a string")
        try:
            return self.reply(line)
        except RoseError:
            return "refused"

    def reply(self, line):
        deed = found_deed(line)
        if deed is not None:
            self.atlas.carry_out(deed)
            return "done"
        if line == "undo":
            self.atlas.undo()
            return "done"
        if line == "redo":
            self.atlas.redo()
            return "done"
        if line == "changed":
            return changed_text(self.atlas.changed())
        return self.told(line.split(" "))

    def told(self, words):
        """What is asked with one more word."""
        if len(words) != 2:
            return "what"
        asked, about = words
        if asked == "stretch":
            errand = found_errand(about)
            return "what" if errand is None else stretch_text(self.atlas.stretch(errand))
        if not is_word(about):
            return "what"
        if asked == "answer":
            return self.atlas.answer(about)
        if asked == "grounds":
            return grounds_text(self.atlas.grounds(about))
        return worth_text(self.atlas.worth(about)) if asked == "worth" else "what"
