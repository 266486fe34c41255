"""A desk: a book, a menu and wanted sayings, which are told and asked about in lines."""

from soundtill.books import Book
from soundtill.entries import Entry, outcomes
from soundtill.errors import BadText, NoLine, TillError
from soundtill.follows import follows
from soundtill.judge import Judge
from soundtill.known import changes
from soundtill.lists import together
from soundtill.plans import plan, worth
from soundtill.reports import report
from soundtill.rows import Row
from soundtill.sayings import Saying
from soundtill.words import told_by, words_of

# How a newline is written where a text stands in a line or an answer.
NEWLINE = " / "

# The words of the lines that have a certain number of them.
FORMS = {
    "take": ("take", "moment"),
    "record": ("record", "name", "name", "moment"),
    "drop": ("drop", "name"),
    "today": ("today", "moment"),
    "show": ("show",),
    "report": ("report",),
    "ask": ("ask", "name"),
    "worth": ("worth",),
    "plan": ("plan",),
}


def told_order(line):
    """The word for what any value tells to do, and what with; raises BadText if it is no line."""
    words = words_of(line)
    word, rest = words[0], " ".join(words[1:])
    if word in Row.KINDS:
        return "row", Row.read(line)
    if word == "book" and len(words) > 1:
        return word, rest
    if line == "today none":
        return word, [None]
    if word in ("judge", "changes"):
        return word, Saying.read(rest)
    if word == "follows":
        return word, Row.read(rest)
    if word == "outcomes":
        return word, Entry.read(rest)
    if word in ("menu", "wanted") and rest == "none":
        return word, []
    if word == "menu":
        return word, [Entry.read(part) for part in rest.split(", ")]
    if word in ("wanted", "together"):
        return word, [Saying.read(part) for part in rest.split(", ")]
    if word in FORMS:
        return word, told_by(0, words, FORMS[word])[1:]
    raise BadText(0, 0)


def read_order(line):
    """What any value tells to do; raises NoLine if it is no line."""
    try:
        return told_order(line)
    except BadText:
        raise NoLine() from None


def put_row(desk, row):
    """Puts a row."""
    number = desk._book.put(row)
    return f"row {number}"


def take_back(desk, told):
    """Takes back the row with a number."""
    book = desk._book
    book -= told[0]
    return "ok"


def set_record(desk, told):
    """Sets a record."""
    name, tool, moment = told
    desk._book[name] = (tool, moment)
    return "ok"


def drop_record(desk, told):
    """Drops a record."""
    desk._book.drop(told[0])
    return "ok"


def set_day(desk, told):
    """Sets today."""
    desk._book.set_today(told[0])
    return "ok"


def keep_book(desk, text):
    """Keeps the book with a text in the place of the one before."""
    desk._book = Book.read(text.replace(NEWLINE, "\n"))
    return "ok"


def keep_menu(desk, menu):
    """Keeps these entries as the menu."""
    desk._menu = menu
    return "ok"


def keep_wanted(desk, wanted):
    """Keeps these sayings as the wanted ones."""
    desk._wanted = wanted
    return "ok"


def tell_book(desk, told):
    """The text of the book."""
    return str(desk._book).replace("\n", NEWLINE)


def tell_report(desk, told):
    """The report of the book."""
    return report(Judge(desk._book)).replace("\n", NEWLINE)


def tell_verdict(desk, saying):
    """The verdict on a saying."""
    judge = Judge(desk._book)
    return judge(saying)


def tell_record(desk, told):
    """Whether a record is sound."""
    return Judge(desk._book).record(told[0])


def tell_together(desk, sayings):
    """Whether sayings are together, and which two are not."""
    paper = together(Judge(desk._book), sayings)
    return "yes" if paper else f"no {paper.one} {paper.other}"


def tell_follows(desk, row):
    """Whether a row follows."""
    return "yes" if follows(Judge(desk._book), row) else "no"


def tell_changes(desk, saying):
    """The words that a saying had, and since when."""
    return ", ".join([f"{n} {word}" for n, word in changes(desk._book, saying)])


def tell_outcomes(desk, entry):
    """The possible outcomes of an entry."""
    return " ".join(list(outcomes(desk._book, entry)))


def tell_worth(desk, told):
    """What the menu is worth for the wanted sayings."""
    number = worth(desk._book, desk._menu, desk._wanted)
    return "none" if number is None else str(number)


def tell_plan(desk, told):
    """A plan with the menu for the wanted sayings."""
    found = plan(desk._book, desk._menu, desk._wanted)
    return "none" if found is None else str(found)


ACTS = {
    "row": put_row,
    "take": take_back,
    "record": set_record,
    "drop": drop_record,
    "today": set_day,
    "book": keep_book,
    "menu": keep_menu,
    "wanted": keep_wanted,
    "show": tell_book,
    "report": tell_report,
    "judge": tell_verdict,
    "ask": tell_record,
    "together": tell_together,
    "follows": tell_follows,
    "changes": tell_changes,
    "outcomes": tell_outcomes,
    "worth": tell_worth,
    "plan": tell_plan,
}


def carried_out(desk, order):
    """The answer to what was told to do."""
    word, value = order
    act = ACTS[word]
    try:
        return act(desk, value)
    except TillError as error:
        name = error.__class__.__name__
        return f"refused {name}"


class Desk:
    """Keeps a book, a menu and wanted sayings, and answers lines about them."""

    def __init__(self):
        self._book = Book()
        self._menu = []
        self._wanted = []

    @property
    def book(self):
        """A new twin of the book."""
        return self._book.twin()

    @property
    def menu(self):
        """A new list of the entries of the menu."""
        return list(self._menu)

    @property
    def wanted(self):
        """A new list of the wanted sayings."""
        return list(self._wanted)

    def say(self, line):
        """Carries out a line, any value, and returns its answer."""
        return carried_out(self, read_order(line))

    def __call__(self, line):
        return self.say(line)

    def run(self, *lines):
        """Carries out lines, any values, if all of them are lines, and returns the list of their answers."""
        orders = [read_order(line) for line in lines]
        return [carried_out(self, order) for order in orders]
