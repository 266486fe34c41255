"""Rows: single pieces of evidence, and the pairs of sayings that each of them excludes."""

from soundtill.errors import BadText, NoTool
from soundtill.sayings import Saying
from soundtill.words import check_form, told_by, word_of, words_of

# What the arguments of each kind must be, in the order of its signature.
FORMS = {
    "begun": ("name", "beginning"),
    "setby": ("name", "beginning", "name"),
    "found": ("name", "moment", "truth"),
    "trusted": ("name",),
    "passed": ("name", "moment", "name"),
    "failed": ("name", "moment", "name"),
    "agreed": ("name", "moment", "name", "moment"),
    "differed": ("name", "moment", "name", "moment"),
    "served": ("name", "moment", "name", "moment"),
    "backed": ("name", "moment", "name", "moment"),
}


def checked(kind, told):
    """The arguments of a row, any values, if they are as its kind demands."""
    for value, form in zip(told, FORMS[kind]):
        check_form(value, form)
    return told


class Row:
    """The base class of the rows. A row never changes."""

    KINDS = ("begun", "setby", "found", "trusted", "passed", "failed", "agreed", "differed", "served", "backed")

    @classmethod
    def read(cls, text):
        """The row with this text, any value."""
        return read_row(0, words_of(text))

    @property
    def begins(self):
        """Whether the row begins a life."""
        return isinstance(self, Beginning)

    @property
    def tools(self):
        """The tools that the row names, ascending."""
        return tuple(sorted(set(self._told_as(("name",)))))

    @property
    def moments(self):
        """The moments that the row names, ascending."""
        return tuple(sorted(set(self._told_as(("moment", "beginning")))))

    def _told_as(self, forms):
        return [value for value, form in zip(self._told, FORMS[self.kind]) if form in forms]

    def pairs(self, lives):
        """The pairs of sayings that are not both true, by these lives."""
        for tool in self.tools:
            if tool not in lives.tools:
                raise NoTool(tool)
        return tuple(self._excluded(lives))

    def __lshift__(self, ticks):
        moved = [
            value + ticks if form in ("moment", "beginning") else value
            for value, form in zip(self._told, FORMS[self.kind])
        ]
        return made_row(self.kind, moved)

    def renamed(self, names):
        """The row with other tools; a tool that is no key of names stays."""
        told = [
            names.get(value, value) if form == "name" else value
            for value, form in zip(self._told, FORMS[self.kind])
        ]
        return made_row(self.kind, told)

    def __eq__(self, other):
        return isinstance(other, Row) and self.kind == other.kind and self._told == other._told

    def __str__(self):
        words = [word_of(value) for value in self._told]
        return " ".join([self.kind, *words])


class Beginning(Row):
    """A row that begins a life."""


class Check(Row):
    """A row about the state of one tool."""


class Meeting(Row):
    """A row about two tools, each at its moment."""

    def __init__(self, kind, one, moment, other, later):
        self._told = checked(kind, (one, moment, other, later))
        self.kind = kind
        self.one = one
        self.moment = moment
        self.other = other
        self.later = later


class Begun(Beginning):
    """A life of the tool begins."""

    def __init__(self, tool, moment):
        self._told = checked("begun", (tool, moment))
        self.kind = "begun"
        self.tool = tool
        self.moment = moment

    def _excluded(self, lives):
        return []


class SetBy(Beginning, Check):
    """A life begins, set with another tool: not sound unless that one was."""

    def __init__(self, tool, moment, by):
        self._told = checked("setby", (tool, moment, by))
        self.kind = "setby"
        self.tool = tool
        self.moment = moment
        self.by = by

    def _excluded(self, lives):
        return [(Saying(self.tool, self.moment, True), Saying(self.by, self.moment, False))]


class Found(Check):
    """The tool was seen to be sound, or unsound."""

    def __init__(self, tool, moment, is_sound):
        self._told = checked("found", (tool, moment, is_sound))
        self.kind = "found"
        self.tool = tool
        self.moment = moment
        self.is_sound = is_sound

    def _excluded(self, lives):
        denied = Saying(self.tool, self.moment, not self.is_sound)
        return [(denied, denied)]


class Trusted(Check):
    """The tool is never unsound."""

    def __init__(self, tool):
        self._told = checked("trusted", (tool,))
        self.kind = "trusted"
        self.tool = tool

    def _excluded(self, lives):
        lasts = [lives.last_of((self.tool, beginning)) for beginning in lives.beginnings(self.tool)]
        denied = [Saying(self.tool, last, False) for last in lasts]
        return [(saying, saying) for saying in denied]


class Passed(Check):
    """A check that the tool passed: if the other one was sound, it was sound."""

    def __init__(self, tool, moment, by):
        self._told = checked("passed", (tool, moment, by))
        self.kind = "passed"
        self.tool = tool
        self.moment = moment
        self.by = by

    def _excluded(self, lives):
        return [(Saying(self.by, self.moment, True), Saying(self.tool, self.moment, False))]


class Failed(Check):
    """A check that the tool failed: if the other one was sound, it was unsound."""

    def __init__(self, tool, moment, by):
        self._told = checked("failed", (tool, moment, by))
        self.kind = "failed"
        self.tool = tool
        self.moment = moment
        self.by = by

    def _excluded(self, lives):
        return [(Saying(self.by, self.moment, True), Saying(self.tool, self.moment, True))]


class Agreed(Meeting):
    """Two tools agreed on one thing: both were sound or neither was."""

    def __init__(self, one, moment, other, later):
        super().__init__("agreed", one, moment, other, later)

    def _excluded(self, lives):
        first, second = Saying(self.one, self.moment, True), Saying(self.other, self.later, True)
        return [(first, ~second), (~first, second)]


class Differed(Meeting):
    """Two tools differed on one thing: not both were sound."""

    def __init__(self, one, moment, other, later):
        super().__init__("differed", one, moment, other, later)

    def _excluded(self, lives):
        return [(Saying(self.one, self.moment, True), Saying(self.other, self.later, True))]


class Served(Meeting):
    """What came of both shows that one of them was sound."""

    def __init__(self, one, moment, other, later):
        super().__init__("served", one, moment, other, later)

    def _excluded(self, lives):
        return [(Saying(self.one, self.moment, False), Saying(self.other, self.later, False))]


class Backed(Meeting):
    """If the one was sound at its moment, the other was at its own."""

    def __init__(self, one, moment, other, later):
        super().__init__("backed", one, moment, other, later)

    def _excluded(self, lives):
        return [(Saying(self.one, self.moment, True), Saying(self.other, self.later, False))]


def made_row(kind, told):
    """The row of a kind with these arguments, which may be any values."""
    if kind == "begun":
        return Begun(*told)
    if kind == "setby":
        return SetBy(*told)
    if kind == "found":
        return Found(*told)
    if kind == "trusted":
        return Trusted(*told)
    if kind == "passed":
        return Passed(*told)
    if kind == "failed":
        return Failed(*told)
    if kind == "agreed":
        return Agreed(*told)
    if kind == "differed":
        return Differed(*told)
    if kind == "served":
        return Served(*told)
    return Backed(*told)


def read_row(line, words):
    """The row that the words of a line tell; raises BadText of this line if one cannot stand."""
    kind = words[0]
    if kind not in Row.KINDS:
        raise BadText(line, 0)
    _, *told = told_by(line, words, (kind, *FORMS[kind]))
    return made_row(kind, told)
