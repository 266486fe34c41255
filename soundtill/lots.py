"""Lots: lists of records that are good, bad or open as a whole."""

from soundtill.errors import NoLot, NoRecord, TooMany
from soundtill.lists import together, torn_pairs
from soundtill.sayings import Saying
from soundtill.words import check_form


def with_lot(lots, book, name, records):
    """The lots with one more, or another one of this name; the name and the items may be any values."""
    check_form(name, "name")
    if len(records) > Lots.LONGEST:
        raise TooMany("records", Lots.LONGEST)
    for item in records:
        if item not in book:
            raise NoRecord(item)
    more = {**lots, name: tuple(records)}
    if len(more) > Lots.MOST:
        raise TooMany("lots", Lots.MOST)
    return more


def with_lots(lots, book, more):
    """The lots with several more, which are set by ascending names."""
    for name in sorted(more):
        lots = with_lot(lots, book, name, more[name])
    return lots


class Lots:
    """Lots of records of a judge's book."""

    MOST = 24
    LONGEST = 8

    def __init__(self, judge, **lots):
        self._judge = judge
        self._lots = with_lots({}, judge.book, lots)

    def __setitem__(self, name, records):
        self._lots = with_lot(self._lots, self._judge.book, name, records)

    def __iadd__(self, more):
        self._lots = with_lots(self._lots, self._judge.book, more)
        return self

    def __getitem__(self, name):
        if name not in self:
            raise NoLot(name)
        return self._lots[name]

    def __iter__(self):
        raise TypeError("lots are not iterated over: ask for their names")

    def drop(self, name):
        """Drops the lot with this name, any value."""
        if name not in self:
            raise NoLot(name)
        self._lots = {other: self._lots[other] for other in self._lots if other != name}

    def __contains__(self, name):
        return isinstance(name, str) and name in self._lots

    def __len__(self):
        return len(self._lots)

    @property
    def names(self):
        """The names of the lots, ascending."""
        return tuple(sorted(self._lots))

    def __eq__(self, other):
        return isinstance(other, Lots) and self._judge.book == other._judge.book and self._lots == other._lots

    def _sound(self, name):
        """The sayings that the records of a lot are sound."""
        book = self._judge.book
        points = [book[record] for record in self[name]]
        return [Saying(tool, moment, True) for tool, moment in points]

    def _forced(self, name):
        """The bits of all sayings that are true if the records of a lot are sound."""
        return self._judge.reach.forced(self._sound(name))

    def verdict(self, name):
        """Whether a lot, its name any value, is good, bad or open."""
        if all([self._judge.record(record) == "sound" for record in self[name]]):
            return "good"
        return "bad" if self._judge.reach.is_torn(self._forced(name)) else "open"

    def shown(self, name):
        """The papers that show the verdict on a lot, its name any value."""
        word = self.verdict(name)
        sayings = self._sound(name)
        verdicts = [self._judge.shown(saying) for saying in sayings]
        if word == "good":
            return tuple(verdicts)
        paper = together(self._judge, sayings)
        if word == "bad":
            return (paper,)
        opened = [verdict for verdict in verdicts if verdict.word == "open"]
        return paper, opened[0]

    def together(self, *names):
        """What is told of the list of all records of these lots, their names any values, as sound."""
        sayings = [saying for name in names for saying in self._sound(name)]
        return together(self._judge, sayings)

    def apart(self):
        """Yields the pairs of names, ascending, of lots that are not bad, but not together."""
        held = {name: self._forced(name) for name in self.names if self.verdict(name) != "bad"}
        yield from torn_pairs(self._judge.reach, held)

    def recall(self, *, surely=False):
        """The names of the lots that are not good, or of those that are bad, ascending."""
        words = ("bad",) if surely else ("bad", "open")
        return tuple([name for name in self.names if self.verdict(name) in words])
