"""Books: rows of evidence and records, which come and are taken back."""

from soundtill.errors import BadMoment, BadPoint, BadRow, Clash, Later, NoDeed, NoRecord, NoRow, TooMany
from soundtill.lives import Lives
from soundtill.rows import Row
from soundtill.texts import told_book
from soundtill.words import check_form, is_moment, is_whole


class Ledger:
    """What stands in a book at one time. It never changes, so several books may share it."""

    def __init__(self, standing, noted, coming, acts, now):
        # The standing rows by their numbers, ascending, and the points by the names of their records.
        self.standing = standing
        self.noted = noted
        # The number of the next row.
        self.coming = coming
        # Each deed is a tuple of "row" or "record", a number or name, and what was put there, if anything.
        self.acts = acts
        self.now = now


def changed(table, key, new):
    """A copy of a table in which the key stands for something new, or is left out if that is None."""
    copied = {old: table[old] for old in table if old != key}
    if new is not None:
        copied[key] = new
    return copied


def behind(ledger, act):
    """The ledger behind one more deed."""
    what, key, new = act
    standing, noted, coming = ledger.standing, ledger.noted, ledger.coming
    if what == "record":
        noted = changed(noted, key, new)
    else:
        standing = changed(standing, key, new)
        # What is taken back has a number below this already, so only a putting makes it greater.
        coming = max(coming, key + 1)
    return Ledger(standing, noted, coming, ledger.acts + (act,), ledger.now)


def check_today(ledger, moments):
    """Raises Later if the greatest of the moments is later than today."""
    if ledger.now is not None and moments and max(moments) > ledger.now:
        raise Later(max(moments))


def tools_in(standing, noted):
    """The tools that rows or records name, ascending."""
    named = [tool for row in standing.values() for tool in row.tools]
    recorded = [tool for tool, moment in noted.values()]
    return sorted(set(named + recorded))


def check_tools(standing, noted):
    """Raises TooMany if these rows and records name too many tools."""
    if len(tools_in(standing, noted)) > Book.MOST_TOOLS:
        raise TooMany("tools", Book.MOST_TOOLS)


def with_row(ledger, row):
    """The ledger behind the putting of a row, any value."""
    if not isinstance(row, Row):
        raise BadRow(0)
    check_today(ledger, row.moments)
    if len(ledger.standing) >= Book.MOST_ROWS:
        raise TooMany("rows", Book.MOST_ROWS)
    more = behind(ledger, ("row", ledger.coming, row))
    check_tools(more.standing, more.noted)
    return more


def with_record(ledger, name, value):
    """The ledger behind the setting of a record; both may be any values."""
    check_form(name, "name")
    if not isinstance(value, tuple) or len(value) != 2:
        raise BadPoint(value)
    tool, moment = value
    check_form(tool, "name")
    check_form(moment, "moment")
    check_today(ledger, (moment,))
    more = behind(ledger, ("record", name, value))
    if len(more.noted) > Book.MOST_RECORDS:
        raise TooMany("records", Book.MOST_RECORDS)
    check_tools(more.standing, more.noted)
    return more


def with_today(ledger, value):
    """The ledger with another today, any value."""
    if value is not None and not is_moment(value):
        raise BadMoment(value)
    moments = [moment for row in ledger.standing.values() for moment in row.moments]
    recorded = [moment for tool, moment in ledger.noted.values()]
    told = Ledger(ledger.standing, ledger.noted, ledger.coming, ledger.acts, value)
    check_today(told, moments + recorded)
    return told


def filled(rows, records):
    """A new ledger, in which the rows were put and then the records set, by ascending names."""
    ledger = Ledger({}, {}, 0, (), None)
    for row in rows:
        ledger = with_row(ledger, row)
    for name in sorted(records):
        ledger = with_record(ledger, name, records[name])
    return ledger


def holding(ledger):
    """A new book that holds what the ledger tells."""
    book = Book()
    book._ledger = ledger
    return book


def joined(records, others):
    """The records of two books; raises Clash with the least name that stands for unlike points."""
    for name in sorted(records):
        if name in others and others[name] != records[name]:
            raise Clash(name)
    return {**records, **others}


def new_names(tools, names):
    """The new names of ascending tools, by the old ones; each must be a name, and no two alike."""
    renamed = {tool: names.get(tool, tool) for tool in tools}
    for tool in tools:
        check_form(renamed[tool], "name")
    ascending = sorted(renamed.values())
    for name, following in zip(ascending, ascending[1:]):
        if name == following:
            raise Clash(name)
    return renamed


class Trial:
    """The context in which a book is tried: behind it the book is as it was."""

    def __init__(self, book):
        self._tried = book
        self._kept = None

    def __enter__(self):
        self._kept = self._tried._ledger
        return self._tried

    def __exit__(self, kind, value, trace):
        book = self._tried
        book._ledger = self._kept


class Book:
    """Rows and records that come and are taken back."""

    MOST_ROWS = 80
    MOST_RECORDS = 60
    MOST_TOOLS = 12

    def __init__(self, *rows, **records):
        for at, row in enumerate(rows):
            if not isinstance(row, Row):
                raise BadRow(at)
        self._ledger = filled(rows, records)

    @classmethod
    def read(cls, text):
        """The book with this text, any value; each line but today is a deed."""
        rows, records, today = told_book(text)
        book = cls()
        book._ledger = with_today(filled(rows, records), today)
        return book

    def put(self, row):
        """Puts a row, any value, and returns its number."""
        number = self._ledger.coming
        self._ledger = with_row(self._ledger, row)
        return number

    def __iadd__(self, row):
        self.put(row)
        return self

    def __isub__(self, number):
        # Asked for first: it raises NoRow for what is no number of a standing row.
        self.row_of(number)
        self._ledger = behind(self._ledger, ("row", number, None))
        return self

    def row_of(self, number):
        """The standing row with this number, any value."""
        if not is_whole(number) or number not in self._ledger.standing:
            raise NoRow(number)
        return self._ledger.standing[number]

    def rows(self):
        """Yields the number and the row of each standing row, ascending."""
        for number, row in list(self._ledger.standing.items()):
            yield number, row

    def __setitem__(self, name, value):
        self._ledger = with_record(self._ledger, name, value)

    def __getitem__(self, name):
        if name not in self:
            raise NoRecord(name)
        return self._ledger.noted[name]

    def __iter__(self):
        raise TypeError("a book is not iterated over: ask for its rows or records")

    def drop(self, name):
        """Drops the record with this name, any value."""
        if name not in self:
            raise NoRecord(name)
        self._ledger = behind(self._ledger, ("record", name, None))

    def __contains__(self, name):
        return isinstance(name, str) and name in self._ledger.noted

    @property
    def records(self):
        """A new dict from the names of the records to their points."""
        noted = self._ledger.noted
        return {name: noted[name] for name in sorted(noted)}

    def __len__(self):
        return len(self._ledger.standing)

    def __bool__(self):
        return bool(self._ledger.standing or self._ledger.noted)

    @property
    def tools(self):
        """The tools that a standing row or a record names, ascending."""
        return tuple(tools_in(self._ledger.standing, self._ledger.noted))

    @property
    def lives(self):
        """The lives of the tools of the book."""
        beginnings = [row for row in self._standing() if row.begins]
        return Lives({tool: [row.moment for row in beginnings if row.tool == tool] for tool in self.tools})

    @property
    def told(self):
        """The points of the pairs of the standing rows and of the records, ascending."""
        lives = self.lives
        pairs = [pair for row in self._standing() for pair in row.pairs(lives)]
        points = [saying.point for pair in pairs for saying in pair]
        return tuple(sorted(set(points + list(self._ledger.noted.values()))))

    @property
    def today(self):
        """The moment behind which nothing may be told, or None."""
        return self._ledger.now

    @today.setter
    def today(self, value):
        self._ledger = with_today(self._ledger, value)

    def set_today(self, value):
        """Does what assigning today does."""
        self.today = value

    @property
    def deeds(self):
        """How many deeds were done."""
        return len(self._ledger.acts)

    def known(self, n):
        """A new book that stands as this one did behind its first n deeds, n any value."""
        if not is_whole(n) or not 0 <= n <= self.deeds:
            raise NoDeed(n)
        ledger = filled([], {})
        for act in self._ledger.acts[:n]:
            ledger = behind(ledger, act)
        return holding(ledger)

    def twin(self):
        """A new book that stands as this one does."""
        return holding(self._ledger)

    def trial(self):
        """A context that gives the book, and behind which the book is as it was."""
        return Trial(self)

    def tried(self, ask):
        """What ask returns for the book; behind this the book is as it was."""
        with self.trial() as same:
            return ask(same)

    def _standing(self):
        return list(self._ledger.standing.values())

    def __eq__(self, other):
        if not isinstance(other, Book):
            return False
        return self._standing() == other._standing() and self._ledger.noted == other._ledger.noted

    def __add__(self, other):
        records = joined(self.records, other.records)
        return holding(filled(self._standing() + other._standing(), records))

    def __or__(self, other):
        records = joined(self.records, other.records)
        ours = self._standing()
        more = [row for row in other._standing() if row not in ours]
        return holding(filled(ours + more, records))

    def __and__(self, other):
        theirs, noted = other._standing(), other.records
        rows = [row for row in self._standing() if row in theirs]
        records = {name: point for name, point in self.records.items() if noted.get(name) == point}
        return holding(filled(rows, records))

    def __lshift__(self, ticks):
        rows = [row << ticks for row in self._standing()]
        records = {name: (tool, moment + ticks) for name, (tool, moment) in self.records.items()}
        return holding(filled(rows, records))

    def renamed(self, names):
        """A new book with other tools; a tool that is no key of names stays."""
        tools = new_names(self.tools, names)
        rows = [row.renamed(tools) for row in self._standing()]
        records = {name: (tools[tool], moment) for name, (tool, moment) in self.records.items()}
        return holding(filled(rows, records))

    def __str__(self):
        rows = [str(row) for row in self._standing()]
        records = [f"record {name} {tool} {moment}" for name, (tool, moment) in self.records.items()]
        today = [] if self.today is None else [f"today {self.today}"]
        return "\n".join([*rows, *records, *today] or ["empty"])
