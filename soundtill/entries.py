"""Entries: checks that could be made, and what their outcomes would settle."""

from soundtill.errors import BadEntry
from soundtill.rows import Failed, Passed
from soundtill.states import States
from soundtill.texts import check_alone, lines_of
from soundtill.words import check_form, told_by

# The words of the text of an entry.
CHECK = ("check", "name", "moment", "by", "name")


class Entry:
    """A check of a tool at a moment by another tool, or by itself. It never changes."""

    def __init__(self, tool, moment, by):
        check_form(tool, "name")
        check_form(moment, "moment")
        check_form(by, "name")
        self.tool = tool
        self.moment = moment
        self.by = by

    @classmethod
    def read(cls, text):
        """The entry with this text, any value."""
        lines = lines_of(text)
        _, tool, moment, _, by = told_by(0, lines[0], CHECK)
        check_alone(lines)
        return cls(tool, moment, by)

    @property
    def passed(self):
        """The row of the outcome "pass"."""
        return Passed(self.tool, self.moment, self.by)

    @property
    def failed(self):
        """The row of the outcome "fail"."""
        return Failed(self.tool, self.moment, self.by)

    def row_of(self, word):
        """The row of an outcome, any value."""
        if word == "pass":
            return self.passed
        if word == "fail":
            return self.failed
        raise BadEntry(word)

    def __eq__(self, other):
        if not isinstance(other, Entry):
            return False
        return self.tool == other.tool and self.moment == other.moment and self.by == other.by

    def is_ahead(self, other):
        """Whether this entry is ahead of another one: by tool, by moment, by the other tool."""
        return (self.tool, self.moment, self.by) < (other.tool, other.moment, other.by)

    def __str__(self):
        return f"check {self.tool} {self.moment} by {self.by}"


def outcomes(book, entry):
    """The possible outcomes of an entry, "pass" ahead of "fail"."""
    states = States(book, [entry], ())
    return tuple(states.possible(states.start, 0))


def settles(book, entry, wanted):
    """For each possible outcome of an entry the wanted sayings that are settled behind it, and were not before."""
    states = States(book, [entry], wanted)
    opened = states.unsettled(states.start)
    settled = {}
    for word in states.possible(states.start, 0):
        still = states.unsettled(states.behind(states.start, 0, word))
        settled[word] = tuple([wanted[at] for at in opened if at not in still])
    return settled
