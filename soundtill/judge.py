"""Judges: whether sayings are true in all histories that keep a book, in none, or in some."""

from soundtill.books import Book
from soundtill.chains import Reach
from soundtill.errors import Contradicted, NoTool
from soundtill.histories import History
from soundtill.sayings import Saying

# What a word says of the record of which "sound" is judged so.
RECORD_WORDS = {"sure": "sound", "never": "unsound", "open": "open"}


class Verdict:
    """The base class of the verdicts, of what each of them does. A verdict never changes."""

    def __bool__(self):
        return bool(isinstance(self, Settled))

    def __invert__(self):
        raise NotImplementedError("a verdict is a Sure, a Never or an Open")

    def __eq__(self, other):
        return False


class Settled(Verdict):
    """The base class of the verdicts that are shown by a chain."""


class Sure(Settled):
    """The saying is true in all histories: the chain leads from its contrary to it."""

    def __init__(self, saying, chain):
        self.word = "sure"
        self.saying = saying
        self.chain = chain

    def __bool__(self):
        return True

    def __invert__(self):
        return Never(~self.saying, self.chain)

    def __eq__(self, other):
        return isinstance(other, Sure) and self.saying == other.saying and self.chain == other.chain


class Never(Settled):
    """The saying is true in no history: the chain leads from it to its contrary."""

    def __init__(self, saying, chain):
        self.word = "never"
        self.saying = saying
        self.chain = chain

    def __bool__(self):
        return True

    def __invert__(self):
        return Sure(~self.saying, self.chain)

    def __eq__(self, other):
        return isinstance(other, Never) and self.saying == other.saying and self.chain == other.chain


class Open(Verdict):
    """The saying is true in one history, and false in another one."""

    def __init__(self, saying, yes, no):
        self.word = "open"
        self.saying = saying
        self.yes = yes
        self.no = no

    def __bool__(self):
        return False

    def __invert__(self):
        return Open(~self.saying, self.no, self.yes)

    def __eq__(self, other):
        if not isinstance(other, Open):
            return False
        return self.saying == other.saying and self.yes == other.yes and self.no == other.no


def least_barred(book):
    """The least number up to which the standing rows of a contradicted book are contradicted by themselves."""
    # Each part is looked at with the lives that it tells: a later beginning may reconcile its rows.
    part = Book()
    for number, row in book.rows():
        part.put(row)
        if Reach(part).on_rings():
            return number
    return None


def history_in(net, sayings):
    """A history of a net without rings in which these sayings about told points are true; None if there is none."""
    held = net.forced(sayings)
    if net.is_torn(held):
        return None
    for tool, moment in net.points:
        saying = Saying(tool, moment, True)
        more = held | net.forced([saying])
        # If it clashes with what is held, or with itself, its contrary does not.
        held = held | net.forced([~saying]) if net.is_torn(more) else more
    lives = net.lives
    turns = {life: None for life in lives.listed}
    for saying in net.sayings_in(held)[::-1]:
        if not saying.is_sound:
            turns[lives.life_of(saying.tool, saying.moment)] = saying.moment
    return History(lives, turns)


class Judge:
    """Judges sayings in a book, as it was when this was made. It never changes."""

    def __init__(self, book, *points):
        self.reach = Reach(book, *points)
        if self.reach.on_rings():
            raise Contradicted(least_barred(book))
        self._book = book.twin()

    @property
    def told(self):
        """The told points and those that were passed, ascending."""
        return self.reach.told

    @property
    def book(self):
        """A new twin of the book."""
        return self._book.twin()

    @property
    def settled(self):
        """The sure sayings about told points, ascending."""
        sayings = [Saying(tool, moment, is_sound) for tool, moment in self.told for is_sound in (False, True)]
        return tuple([saying for saying in sayings if self.reach.judged(saying) == "sure"])

    def __call__(self, saying):
        return self.reach.judged(saying)

    def shown(self, saying):
        """The verdict on a saying with what shows it."""
        word = self.reach.judged(saying)
        if word == "sure":
            return Sure(saying, self.reach.shortest(~saying, saying))
        if word == "never":
            return Never(saying, self.reach.shortest(saying, ~saying))
        return Open(saying, self.history_with(saying), self.history_with(~saying))

    def record(self, name):
        """Whether a record, its name any value, is sound, unsound or open."""
        tool, moment = self._book[name]
        return RECORD_WORDS[self.reach.judged(Saying(tool, moment, True))]

    def each_record(self):
        """Yields the name and the word of each record, ascending."""
        for name in self._book.records:
            yield name, self.record(name)

    def history_with(self, *sayings):
        """A history that keeps the book and makes the sayings true; None if there is none."""
        return history_in(self.net_with(sayings), sayings)

    def net_with(self, sayings):
        """What leads to what, with the points of the sayings told; raises NoTool for the first unknown tool."""
        tools = self.reach.lives.tools
        for saying in sayings:
            if saying.tool not in tools:
                raise NoTool(saying.tool)
        return self.reach.with_points([saying.point for saying in sayings])
