"""Lookers: whether papers are right, seen without a search."""

from soundtill.chains import Chain, Step
from soundtill.follows import Broken, Follows
from soundtill.histories import History
from soundtill.judge import Never, Open, Sure
from soundtill.lists import Apart, Together
from soundtill.nets import is_by_time, key_of, row_steps
from soundtill.rows import Row
from soundtill.sayings import Saying
from soundtill.turns import plain_blocks, turn_sayings, turns_among
from soundtill.words import is_whole


def is_index(value, items):
    """Whether any value is the index of one of the items, counted from 0."""
    return is_whole(value) and 0 <= value < len(items)


def makes_all(history, sayings):
    """Whether all the sayings are true in a history."""
    return all([history(saying) for saying in sayings])


def is_same_turn(value, turn):
    """Whether any value is this turn."""
    return value is None if turn is None else is_whole(value) and value == turn


class Looker:
    """Looks at papers about a book, as it was when this was made. It never changes."""

    def __init__(self, book, most=2000):
        self._book = book.twin()
        self._lives = book.lives
        self._most = most
        self._by_rows = {step: True for step in row_steps(book.lives, list(book.rows()))}

    def is_step(self, thing):
        """Whether any value is a step of the book."""
        if not isinstance(thing, Step) or thing.one.tool not in self._lives.tools:
            return False
        if thing.reason == "time":
            return is_by_time(self._lives, thing.one, thing.other)
        return (key_of(thing.one), key_of(thing.other), thing.reason) in self._by_rows

    def _goes(self, chain):
        """Whether a chain has not too many steps, all of them of the book."""
        return len(chain) <= self._most and all([self.is_step(step) for step in chain.steps])

    def is_chain(self, thing, one, other):
        """Whether any value is a chain of the book from one saying to another one."""
        if not isinstance(thing, Chain) or thing.source != one or thing.goal != other:
            return False
        return self._goes(thing)

    def is_ring(self, thing):
        """Whether any value is a ring of the book."""
        if not isinstance(thing, Chain) or thing.source != thing.goal or not self._goes(thing):
            return False
        passed = {key_of(step.one): True for step in thing.steps}
        return any([key_of(~step.one) in passed for step in thing.steps])

    def is_history(self, thing):
        """Whether any value is a history that has just the lives of the book and keeps it."""
        return isinstance(thing, History) and thing.lives == self._lives and thing.keeps(self._book)

    def _knows(self, sayings):
        """Whether all of some values are sayings about tools of the book."""
        tools = self._lives.tools
        return all([isinstance(saying, Saying) and saying.tool in tools for saying in sayings])

    def _allows(self, thing, sayings):
        """Whether any value is a history of the book in which the sayings, any values, are true."""
        return self._knows(sayings) and self.is_history(thing) and makes_all(thing, sayings)

    def __call__(self, thing):
        if isinstance(thing, Sure):
            return self._knows([thing.saying]) and self.is_chain(thing.chain, ~thing.saying, thing.saying)
        if isinstance(thing, Never):
            return self._knows([thing.saying]) and self.is_chain(thing.chain, thing.saying, ~thing.saying)
        if isinstance(thing, Open):
            return self._allows(thing.yes, [thing.saying]) and self._allows(thing.no, [~thing.saying])
        if isinstance(thing, Together):
            return self._allows(thing.history, thing.sayings)
        if isinstance(thing, Apart):
            return self._parts(thing)
        if isinstance(thing, Follows):
            return self._speaks_of(thing.evidence) and self._derives(thing)
        if isinstance(thing, Broken):
            return self._speaks_of(thing.evidence) and self._breaks(thing)
        return False

    def _parts(self, paper):
        """Whether an Apart is right."""
        sayings = paper.sayings
        if not is_index(paper.one, sayings) or not is_index(paper.other, sayings) or not self._knows(sayings):
            return False
        one, end = sayings[paper.one], ~sayings[paper.other]
        return one == end if paper.chain is None else self.is_chain(paper.chain, one, end)

    def _speaks_of(self, evidence):
        """Whether any value is a row that begins no life, about tools of the book."""
        if not isinstance(evidence, Row) or evidence.begins:
            return False
        return all([tool in self._lives.tools for tool in evidence.tools])

    def _derives(self, paper):
        """Whether a Follows about tools of the book is right."""
        pairs = paper.evidence.pairs(self._lives)
        if len(paper.chains) != len(pairs):
            return False
        return all([self._excludes(chain, one, other) for chain, (one, other) in zip(paper.chains, pairs)])

    def _excludes(self, chain, one, other):
        """Whether any value shows that not both sayings of a pair are true."""
        if chain is None:
            return other == ~one
        ends = [(one, ~other), (one, ~one), (other, ~other)]
        return any([self.is_chain(chain, source, goal) for source, goal in ends])

    def _breaks(self, paper):
        """Whether a Broken about tools of the book is right."""
        pairs = paper.evidence.pairs(self._lives)
        return self.is_history(paper.history) and any([makes_all(paper.history, pair) for pair in pairs])

    def shows_turns(self, tool, moment, thing, papers):
        """Whether two things, any values, are the turns of the life of a point, any values, and what shows them."""
        life = self._lives.life_of(tool, moment)
        told = [(name, other) for name, other in self._book.told if self._lives.life_of(name, other) == life]
        moments = [other for name, other in sorted(set(told + [(tool, moment)]))]
        blocks = plain_blocks(self._lives, life, moments)
        if not isinstance(papers, (list, tuple)) or len(papers) != len(blocks):
            return False
        possible = []
        for item, block in zip(papers, blocks):
            if not isinstance(item, tuple) or len(item) != 2 or not is_same_turn(item[0], block[0]):
                return False
            if isinstance(item[1], History):
                possible.append(block)
            if not self._shows_turn(life, block[0], item[1]):
                return False
        return turns_among(self._lives, life, possible) == thing

    def _shows_turn(self, life, turn, paper):
        """Whether any value is a history with this turn of a life, or a chain that excludes it."""
        if isinstance(paper, History):
            return self.is_history(paper) and is_same_turn(paper.turn(*life), turn)
        sayings = turn_sayings(self._lives, *life, turn)
        return any([self.is_chain(paper, one, ~other) for one in sayings for other in sayings])
