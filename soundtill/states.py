"""States of a book behind the outcomes of checks: what is possible and settled there, and what it is worth."""

from soundtill.judge import Judge
from soundtill.lives import with_tools
from soundtill.nets import Net

# The outcomes of an entry, in their order.
OUTCOMES = ("pass", "fail")


class States:
    """The states of a book that is not contradicted, for some entries and wanted sayings.

    A state is a tuple that has for each entry its outcome, or None as long as it has none. The
    lives are those of all tools that are named, the wanted ones too: a saying about a tool of
    which no row speaks is open either way.
    """

    def __init__(self, book, entries, wanted):
        self.entries = tuple(entries)
        self.start = tuple([None for _ in self.entries])
        self._wanted = tuple(wanted)
        self._given = [row for number, row in book.rows()]
        filled = with_all_put(book, self.entries)
        self.points = tuple(sorted(set(list(filled.told) + [saying.point for saying in self._wanted])))
        self._lives = with_tools(filled.lives, [tool for tool, moment in self.points])
        self._nets = {}
        self._worths = {}

    def _net(self, state):
        """What leads to what at a state, also at one that is not possible."""
        if state not in self._nets:
            told = [entry.row_of(word) for entry, word in zip(self.entries, state) if word is not None]
            # No chain is told, so the numbers of the rows do not matter.
            self._nets[state] = Net(self._lives, list(enumerate(self._given + told)), self.points)
        return self._nets[state]

    def left(self, state):
        """The indexes of the entries that have no outcome yet."""
        return [at for at, word in enumerate(state) if word is None]

    def behind(self, state, at, word):
        """The state behind this outcome of the entry with the index at."""
        return state[:at] + (word,) + state[at + 1:]

    def possible(self, state, at):
        """The possible outcomes of the entry with the index at."""
        return [word for word in OUTCOMES if not self._net(self.behind(state, at, word)).on_rings()]

    def unsettled(self, state):
        """The indexes of the wanted sayings that are open at a state."""
        net = self._net(state)
        return [at for at, saying in enumerate(self._wanted) if net.judged(saying) == "open"]

    def worth_at(self, state):
        """The worth of a state, None if its wanted sayings may stay open."""
        if state not in self._worths:
            self._worths[state] = self._least_cost(state) if self.unsettled(state) else 0
        return self._worths[state]

    def _least_cost(self, state):
        costs = [self.cost(state, at) for at in self.left(state)]
        return min([cost for cost in costs if cost is not None], default=None)

    def cost(self, state, at):
        """The worth of a state if the entry with the index at is done there."""
        worths = [self.worth_at(self.behind(state, at, word)) for word in self.possible(state, at)]
        return None if None in worths else 1 + max(worths)


def with_all_put(book, entries):
    """A twin with the rows of the passed entries; raises Contradicted as a judge does, then what putting raises."""
    Judge(book)
    filled = book.twin()
    for entry in entries:
        filled.put(entry.passed)
    return filled
