"""Steps from saying to saying, chains of them, and what leads to what in a book."""

from soundtill.errors import BadChain, BadPoint, NoTool
from soundtill.sayings import Saying
from soundtill.words import is_whole, is_point


class Step:
    """A step from one saying to another one, for a reason. It never changes."""

    def __init__(self, one, other, reason):
        if not isinstance(one, Saying):
            raise BadChain(0)
        if not isinstance(other, Saying):
            raise BadChain(1)
        if not (is_whole(reason) and reason >= 0) and not (isinstance(reason, str) and reason == "time"):
            raise BadChain(2)
        self.one = one
        self.other = other
        self.reason = reason

    def __invert__(self):
        return Step(~self.other, ~self.one, self.reason)

    def __eq__(self, other):
        if not isinstance(other, Step):
            return False
        return self.one == other.one and self.other == other.other and self.reason == other.reason

    def __str__(self):
        return f"{self.one!s}, {self.other!s} by {self.reason}"


class Chain:
    """Steps, each of which begins where the one before it ends. It never changes."""

    def __init__(self, *steps):
        if not steps:
            raise BadChain(None)
        for at, step in enumerate(steps):
            if not isinstance(step, Step) or (at > 0 and step.one != steps[at - 1].other):
                raise BadChain(at)
        self._steps = steps

    @property
    def source(self):
        """The saying with which the chain begins."""
        return self._steps[0].one

    @property
    def goal(self):
        """The saying with which the chain ends."""
        return self._steps[-1].other

    @property
    def steps(self):
        """The tuple of the steps."""
        return self._steps

    @property
    def numbers(self):
        """The numbers of the rows that are reasons here, ascending."""
        return tuple(sorted(set([step.reason for step in self._steps if step.reason != "time"])))

    def __len__(self):
        return len(self._steps)

    def __getitem__(self, k):
        if not is_whole(k) or not 0 <= k < len(self._steps):
            raise BadChain(k)
        return self._steps[k]

    def __iter__(self):
        raise TypeError("a chain is not iterated over: ask for its steps")

    def __add__(self, other):
        joined = self._steps + other._steps
        return Chain(*joined)

    def __invert__(self):
        turned = [~step for step in self._steps[::-1]]
        return Chain(*turned)

    def __eq__(self, other):
        return isinstance(other, Chain) and self._steps == other._steps

    def __call__(self, history):
        # All sayings are asked first: one about an unknown tool counts behind a broken step, too.
        truths = [history(self._steps[0].one)] + [history(step.other) for step in self._steps]
        for at, (before, later) in enumerate(zip(truths, truths[1:])):
            if before and not later:
                return at
        return None

    def __str__(self):
        ends = [f"{step.other!s} by {step.reason}" for step in self._steps]
        return ", ".join([str(self.source), *ends])


def key_of(saying):
    """A saying as a tuple, which can be a key."""
    return saying.tool, saying.moment, saying.is_sound


def stretch(low, high):
    """The bits of the unsound sayings about the told points from the index low up to, not with, high."""
    # Two bits stand for each point, so this is 1 + 4 + 16 + .., moved up.
    return ((1 << (2 * high)) - (1 << (2 * low))) // 3


def numbers_in(bits):
    """The numbers of the bits that are set, ascending."""
    numbers = []
    while bits:
        least = bits & -bits
        numbers.append(least.bit_length() - 1)
        bits = bits - least
    return numbers


class Reach:
    """Which sayings lead to which in a book, as it was when this was made. It never changes.

    Sets of sayings about told points are kept as the bits of an integer: those about the point
    with the index k are the bits 2 k (unsound) and 2 k + 1 (sound), so greater sayings have
    greater bits. A chain needs no points but the told ones between its ends: two time steps
    that meet at another point are one.
    """

    def __init__(self, book, *points):
        for point in points:
            if not is_point(point):
                raise BadPoint(point)
        self._lives = book.lives
        for tool, moment in points:
            self._check_tool(tool)
        self._points = tuple(sorted(set(list(book.told) + list(points))))
        self._places = {point: place for place, point in enumerate(self._points)}
        self._in_life = self._told_lives()
        self._reasons = self._row_reasons(book)
        self._ahead = self._steps_ahead()

    def _check_tool(self, tool):
        if tool not in self._lives.tools:
            raise NoTool(tool)

    def _told_lives(self):
        """For each life with told points the place of the first one, and the moments of all."""
        found = {}
        for place, (tool, moment) in enumerate(self._points):
            life = self._lives.life_of(tool, moment)
            first, moments = found.get(life, (place, []))
            found[life] = (first, [*moments, moment])
        return found

    def _row_reasons(self, book):
        """For the two ends of each step by a row the least number of such a row."""
        reasons = {}
        for number, row in book.rows():
            for one, other in row.pairs(self._lives):
                reasons.setdefault((key_of(one), key_of(~other)), number)
                reasons.setdefault((key_of(other), key_of(~one)), number)
        return reasons

    def _steps_ahead(self):
        """For each saying about a told point, by its bit, the bits of those one step ahead."""
        ahead = [self._by_time(self._saying(number)) for number in range(2 * len(self._points))]
        for one, other in self._reasons:
            ahead[self._number(one)] = ahead[self._number(one)] | (1 << self._number(other))
        return ahead

    def _number(self, key):
        tool, moment, is_sound = key
        return 2 * self._places[tool, moment] + (1 if is_sound else 0)

    def _saying(self, number):
        tool, moment = self._points[number // 2]
        return Saying(tool, moment, number % 2 == 1)

    def _by_time(self, saying):
        """The bits of the sayings to which a time step leads from a saying about any point."""
        first, moments = self._in_life.get(self._lives.life_of(saying.tool, saying.moment), (0, []))
        if saying.is_sound:
            lesser = len([moment for moment in moments if moment < saying.moment])
            return stretch(first, first + lesser) << 1
        greater = len([moment for moment in moments if moment > saying.moment])
        end = first + len(moments)
        return stretch(end - greater, end)

    def _one_ahead(self, saying):
        """The bits of the sayings to which a step leads from a saying about any point."""
        if saying.point in self._places:
            return self._ahead[self._number(key_of(saying))]
        return self._by_time(saying)

    def _one_behind(self, saying):
        """The bits of the sayings from which a step leads to a saying about any point."""
        # They are the contraries of what its contrary leads to: each pair of bits is exchanged.
        turned = self._one_ahead(~saying)
        unsound = stretch(0, len(self._points))
        return ((turned & unsound) << 1) | ((turned >> 1) & unsound)

    def _layers(self, one):
        """The bits of the sayings to which a shortest chain has one step, two steps, and so on."""
        layers = []
        seen = 0
        layer = self._one_ahead(one)
        while layer:
            layers.append(layer)
            seen = seen | layer
            ahead = 0
            for number in numbers_in(layer):
                ahead = ahead | self._ahead[number]
            layer = ahead & ~seen
        return layers

    def _reason(self, one, other):
        """The reason of a step from one saying to another one; None if there is no such step."""
        if one.is_sound == other.is_sound and one.tool == other.tool:
            is_later = other.moment < one.moment if one.is_sound else other.moment > one.moment
            like = self._lives.life_of(one.tool, one.moment) == self._lives.life_of(other.tool, other.moment)
            if is_later and like:
                return "time"
        return self._reasons.get((key_of(one), key_of(other)))

    def _between(self, one, other):
        """The layers between the ends of a shortest chain, none for a single step; None if there is no chain."""
        if self._reason(one, other) is not None:
            return []
        last = self._one_behind(other)
        layers = self._layers(one)
        for at, layer in enumerate(layers):
            if layer & last:
                return layers[:at + 1]
        return None

    @property
    def told(self):
        """The told points and those that were passed, ascending."""
        return self._points

    def leads(self, one, other):
        """Whether one saying leads to another one."""
        self._check_tool(one.tool)
        self._check_tool(other.tool)
        return self._between(one, other) is not None

    def shortest(self, one, other):
        """A shortest chain from one saying to another one; None if there is none."""
        self._check_tool(one.tool)
        self._check_tool(other.tool)
        layers = self._between(one, other)
        if layers is None:
            return None
        sayings = [other]
        for layer in layers[::-1]:
            before = numbers_in(layer & self._one_behind(sayings[-1]))
            sayings.append(self._saying(before[0]))
        sayings.append(one)
        way = sayings[::-1]
        steps = [Step(start, end, self._reason(start, end)) for start, end in zip(way, way[1:])]
        return Chain(*steps)

    def reached(self, one):
        """Yields the sayings about told points to which a saying leads, those in fewer steps first."""
        self._check_tool(one.tool)
        for layer in self._layers(one):
            for number in numbers_in(layer):
                yield self._saying(number)

    def ring(self):
        """A ring with as few steps as any; None if there is none."""
        best, least = None, 0
        for number in range(0, 2 * len(self._points), 2):
            saying = self._saying(number)
            steps = self._steps_round(saying)
            if steps is not None and (best is None or steps < least):
                best, least = saying, steps
        if best is None:
            return None
        return self.shortest(best, ~best) + self.shortest(~best, best)

    def _steps_round(self, saying):
        """How many steps a shortest ring through a saying and its contrary has, None if there is none."""
        there = self._between(saying, ~saying)
        if there is None:
            return None
        back = self._between(~saying, saying)
        if back is None:
            return None
        return len(there) + len(back) + 2
