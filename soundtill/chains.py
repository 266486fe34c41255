"""Steps from saying to saying, chains of them, and what leads to what in a book."""

from soundtill.errors import BadChain, BadPoint, NoTool
from soundtill.nets import Net
from soundtill.sayings import Saying
from soundtill.words import is_point, is_whole


class Step:
    """A step from one saying to another one, for a reason. It never changes."""

    def __init__(self, one, other, reason):
        if not isinstance(one, Saying):
            raise BadChain(0)
        if not isinstance(other, Saying):
            raise BadChain(1)
        if not (is_whole(reason) and reason >= 0) and not (isinstance(reason, str) and reason == "time"):
            raise BadChain(2)
        self.one = one
        self.other = other
        self.reason = reason

    def __invert__(self):
        return Step(~self.other, ~self.one, self.reason)

    def __eq__(self, other):
        if not isinstance(other, Step):
            return False
        return self.one == other.one and self.other == other.other and self.reason == other.reason

    def __str__(self):
        return f"{self.one!s}, {self.other!s} by {self.reason}"


class Chain:
    """Steps, each of which begins where the one before it ends. It never changes."""

    def __init__(self, *steps):
        if not steps:
            raise BadChain(None)
        for at, step in enumerate(steps):
            if not isinstance(step, Step) or (at > 0 and step.one != steps[at - 1].other):
                raise BadChain(at)
        self._steps = steps

    @property
    def source(self):
        """The saying with which the chain begins."""
        return self._steps[0].one

    @property
    def goal(self):
        """The saying with which the chain ends."""
        return self._steps[-1].other

    @property
    def steps(self):
        """The tuple of the steps."""
        return self._steps

    @property
    def numbers(self):
        """The numbers of the rows that are reasons here, ascending."""
        return tuple(sorted(set([step.reason for step in self._steps if step.reason != "time"])))

    def __len__(self):
        return len(self._steps)

    def __getitem__(self, k):
        if not is_whole(k) or not 0 <= k < len(self._steps):
            raise BadChain(k)
        return self._steps[k]

    def __iter__(self):
        raise TypeError("a chain is not iterated over: ask for its steps")

    def __add__(self, other):
        joined = self._steps + other._steps
        return Chain(*joined)

    def __invert__(self):
        turned = [~step for step in self._steps[::-1]]
        return Chain(*turned)

    def __eq__(self, other):
        return isinstance(other, Chain) and self._steps == other._steps

    def __call__(self, history):
        # All sayings are asked first: one about an unknown tool counts behind a broken step, too.
        truths = [history(self._steps[0].one)] + [history(step.other) for step in self._steps]
        for at, (before, later) in enumerate(zip(truths, truths[1:])):
            if before and not later:
                return at
        return None

    def __str__(self):
        ends = [f"{step.other!s} by {step.reason}" for step in self._steps]
        return ", ".join([str(self.source), *ends])


class Reach(Net):
    """Which sayings lead to which in a book, as it was when this was made. It never changes."""

    def __init__(self, book, *points):
        for point in points:
            if not is_point(point):
                raise BadPoint(point)
        lives = book.lives
        for tool, moment in points:
            if tool not in lives.tools:
                raise NoTool(tool)
        recorded = list(book.records.values())
        super().__init__(lives, list(book.rows()), recorded + list(points))

    def _check_tools(self, *sayings):
        for saying in sayings:
            if saying.tool not in self.lives.tools:
                raise NoTool(saying.tool)

    @property
    def told(self):
        """The told points and those that were passed, ascending."""
        return self.points

    def leads(self, one, other):
        """Whether one saying leads to another one."""
        self._check_tools(one, other)
        return super().leads(one, other)

    def shortest(self, one, other):
        """A shortest chain from one saying to another one; None if there is none."""
        self._check_tools(one, other)
        way = self.shortest_way(one, other)
        if way is None:
            return None
        steps = [Step(start, end, self.reason_for(start, end)) for start, end in zip(way, way[1:])]
        return Chain(*steps)

    def reached(self, one):
        """Yields the sayings about told points to which a saying leads, those in fewer steps first."""
        self._check_tools(one)
        for layer in self.layers(one):
            for saying in self.sayings_in(layer):
                yield saying

    def ring(self):
        """A ring with as few steps as any; None if there is none."""
        best = None
        for saying in self.on_rings():
            there, back = self.shortest(saying, ~saying), self.shortest(~saying, saying)
            if best is None or len(there) + len(back) < len(best):
                best = there + back
        return best
