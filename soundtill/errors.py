"""The errors of the package. Each keeps its fields as they were passed and does not look at them."""


class TillError(ValueError):
    """The base class of all errors of the package."""


class BadName(TillError):
    """A name was needed: what was passed is none."""

    def __init__(self, name):
        self.name = name


class BadMoment(TillError):
    """A moment was needed: what was passed is none, or none that may stand there."""

    def __init__(self, moment):
        self.moment = moment


class BadSaying(TillError):
    """A truth was needed: what was passed is no bool."""

    def __init__(self, value):
        self.value = value


class BadPoint(TillError):
    """A point was needed: what was passed is none."""

    def __init__(self, value):
        self.value = value


class BadRow(TillError):
    """A row was needed: what was passed at this index is none."""

    def __init__(self, at):
        self.at = at


class BadTurn(TillError):
    """The turns are none of these lives, or the turn of this life is none of it."""

    def __init__(self, at):
        self.at = at


class BadTurns(TillError):
    """A set of turns cannot be made, or two cannot be held against one another."""

    def __init__(self, at):
        self.at = at


class NoTool(TillError):
    """There is no such tool."""

    def __init__(self, tool):
        self.tool = tool


class NoRow(TillError):
    """No standing row has this number."""

    def __init__(self, number):
        self.number = number


class NoDeed(TillError):
    """So many deeds were not done."""

    def __init__(self, number):
        self.number = number


class NoRecord(TillError):
    """No record has this name."""

    def __init__(self, name):
        self.name = name


class NoLot(TillError):
    """No lot has this name."""

    def __init__(self, name):
        self.name = name


class NoLife(TillError):
    """There is no such life."""

    def __init__(self, value):
        self.value = value


class NoEvidence(TillError):
    """A row of this kind begins a life, and so cannot follow."""

    def __init__(self, word):
        self.word = word


class TooMany(TillError):
    """There would be more of these than the most that may be."""

    def __init__(self, what, most):
        self.what = what
        self.most = most


class Later(TillError):
    """This moment is later than today."""

    def __init__(self, moment):
        self.moment = moment


class Clash(TillError):
    """This name would stand for two things."""

    def __init__(self, name):
        self.name = name


class Unlike(TillError):
    """This tool has not the same lives on both sides."""

    def __init__(self, tool):
        self.tool = tool


class Contradicted(TillError):
    """No history keeps the standing rows up to this one."""

    def __init__(self, number):
        self.number = number


class BadChain(TillError):
    """A step or a chain cannot be made of this, or has no such index."""

    def __init__(self, at):
        self.at = at


class BadEntry(TillError):
    """An entry, or an outcome of one, was needed here."""

    def __init__(self, at):
        self.at = at


class BadText(TillError):
    """A text is wrong at this word of this line."""

    def __init__(self, line, word):
        self.line = line
        self.word = word


class NoLine(TillError):
    """What was said is no line of a desk."""
