"""Nets: which sayings lead to which by some rows, for all that judge a book."""

from soundtill.sayings import Saying


def key_of(saying):
    """A saying as a tuple, which can be a key."""
    return saying.tool, saying.moment, saying.is_sound


def row_steps(lives, numbered):
    """The steps by the numbered rows, each as a tuple of the keys of its two ends and the number."""
    steps = []
    for number, row in numbered:
        for one, other in row.pairs(lives):
            steps.append((key_of(one), key_of(~other), number))
            steps.append((key_of(other), key_of(~one), number))
    return steps


def row_reasons(lives, numbered):
    """For the two ends of each step by one of the numbered rows the least number of such a row."""
    reasons = {}
    for one, other, number in row_steps(lives, numbered):
        reasons.setdefault((one, other), number)
    return reasons


def is_by_time(lives, one, other):
    """Whether a time step leads from one saying, about a tool of these lives, to another saying."""
    if one.tool != other.tool or one.is_sound != other.is_sound:
        return False
    is_ahead = other.moment < one.moment if one.is_sound else other.moment > one.moment
    return is_ahead and lives.life_of(one.tool, one.moment) == lives.life_of(other.tool, other.moment)


def stretch(low, high):
    """The bits of the unsound sayings about the told points from the index low up to, not with, high."""
    # Two bits stand for each point, so this is 1 + 4 + 16 + .., moved up.
    return ((1 << (2 * high)) - (1 << (2 * low))) // 3


def numbers_in(bits):
    """The numbers of the bits that are set, ascending."""
    numbers = []
    while bits:
        least = bits & -bits
        numbers.append(least.bit_length() - 1)
        bits = bits - least
    return numbers


def finished(nexts):
    """All numbers in an order in which a search by depth leaves them; nexts tells what follows on each."""
    order = []
    seen = [False for _ in nexts]
    waiting = [(number, False) for number in range(len(nexts))]
    while waiting:
        number, is_left = waiting.pop()
        if is_left:
            order.append(number)
        elif not seen[number]:
            seen[number] = True
            waiting.append((number, True))
            waiting.extend([(other, False) for other in nexts[number]])
    return order


def ring_from(nexts, start, beyond):
    """What is reached from a number without those that beyond has already, and the bits of all that is reached."""
    ring, bits, waiting = {start: True}, 0, [start]
    while waiting:
        one = waiting.pop()
        for other in nexts[one]:
            bits = bits | (1 << other) | beyond.get(other, 0)
            if other not in beyond and other not in ring:
                ring[other] = True
                waiting.append(other)
    return list(ring), bits


def all_beyond(nexts):
    """For the number of each saying the bits of those to which it leads, if nexts has the least steps.

    This is Kosaraju's search: in the order in which the turned net is left, from the last one
    back, each search finds the sayings of one ring, and those that it leads to are known. The
    turned net is the net of the contraries, and these have the numbers with another last bit.
    """
    beyond = {}
    for number in [number ^ 1 for number in finished(nexts)][::-1]:
        if number not in beyond:
            ring, bits = ring_from(nexts, number, beyond)
            for one in ring:
                beyond[one] = bits
    return beyond


class Net:
    """Which sayings lead to which by some rows with their numbers, over some lives. It never changes.

    Sets of sayings about its points, the told ones, are kept as the bits of an integer: those
    about the point with the index k have the numbers 2 k (unsound) and 2 k + 1 (sound), so
    greater sayings have greater numbers. A chain needs no points but the told ones between its
    ends: two time steps that meet at another point are one.
    """

    def __init__(self, lives, numbered, points):
        self._lives = lives
        self._numbered = numbered
        self._reasons = row_reasons(lives, numbered)
        named = [(tool, moment) for ends in self._reasons for tool, moment, is_sound in ends]
        self.points = tuple(sorted(set(named + list(points))))
        self._places = {point: place for place, point in enumerate(self.points)}
        self._in_life = self._told_lives()
        # For each point the index of the first one of its life, and of the first one behind this life.
        self._spans = [(low, low + len(moments)) for low, moments in self._in_life.values() for _ in moments]
        self._by_rows = self._steps_by_rows()
        self._beyond = all_beyond([self._nexts(number) for number in range(2 * len(self.points))])

    def _told_lives(self):
        """For each life with told points the index of the first one, and the moments of all."""
        found = {}
        for place, (tool, moment) in enumerate(self.points):
            life = self._lives.life_of(tool, moment)
            low, moments = found.get(life, (place, []))
            found[life] = (low, [*moments, moment])
        return found

    def _steps_by_rows(self):
        """For the number of each saying the bits of those to which a step by a row leads."""
        ahead = [0 for _ in range(2 * len(self.points))]
        for one, other in self._reasons:
            number = self._number(one)
            ahead[number] = ahead[number] | (1 << self._number(other))
        return ahead

    def _number(self, key):
        """The number of a saying, told by its key; None if its point is not told."""
        tool, moment, is_sound = key
        place = self._places.get((tool, moment))
        return None if place is None else 2 * place + (1 if is_sound else 0)

    def _saying(self, number):
        tool, moment = self.points[number // 2]
        return Saying(tool, moment, number % 2 == 1)

    def _nexts(self, number):
        """The numbers of the next saying in time, if there is one, and of those one step by a row ahead."""
        low, high = self._spans[number // 2]
        near = number - 2 if number % 2 else number + 2
        return [*([near] if low <= near // 2 < high else []), *numbers_in(self._by_rows[number])]

    def _by_time(self, number):
        """The bits of the sayings to which a time step leads from the one with this number."""
        low, high = self._spans[number // 2]
        return stretch(low, number // 2) << 1 if number % 2 else stretch(number // 2 + 1, high)

    def _life_of(self, saying):
        return self._lives.life_of(saying.tool, saying.moment)

    def _gate(self, saying):
        """The number of the saying nearest in time to which a time step leads; None if there is none."""
        low, moments = self._in_life.get(self._life_of(saying), (0, []))
        if saying.is_sound:
            lesser = len([moment for moment in moments if moment < saying.moment])
            return 2 * (low + lesser) - 1 if lesser else None
        greater = len([moment for moment in moments if moment > saying.moment])
        return 2 * (low + len(moments) - greater) if greater else None

    def _led_to(self, saying):
        """The bits of the sayings to which a saying about any point leads."""
        number = self._number(key_of(saying))
        if number is not None:
            return self._beyond[number]
        gate = self._gate(saying)
        return 0 if gate is None else (1 << gate) | self._beyond[gate]

    def _first_steps(self, saying):
        """The bits of the sayings to which a step leads from a saying about any point."""
        number = self._number(key_of(saying))
        if number is not None:
            return self._by_time(number) | self._by_rows[number]
        gate = self._gate(saying)
        return 0 if gate is None else (1 << gate) | self._by_time(gate)

    def _last_steps(self, saying):
        """The bits of the sayings from which a step leads to a saying about any point."""
        # They are the contraries of what its contrary leads to: each pair of bits is exchanged.
        turned = self._first_steps(~saying)
        unsound = stretch(0, len(self.points))
        return ((turned & unsound) << 1) | ((turned >> 1) & unsound)

    def reason_for(self, one, other):
        """The reason of a step from one saying to another one; None if there is no such step."""
        if is_by_time(self._lives, one, other):
            return "time"
        return self._reasons.get((key_of(one), key_of(other)))

    @property
    def lives(self):
        """The lives over which the rows speak."""
        return self._lives

    def with_points(self, points):
        """The net in which these points are told, too."""
        if all([point in self._places for point in points]):
            return self
        return Net(self._lives, self._numbered, self.points + tuple(points))

    def moments_in(self, life):
        """The told moments of a life, ascending."""
        _, moments = self._in_life.get(life, (0, []))
        return list(moments)

    def forced(self, sayings):
        """The bits of the sayings about told points that are among these, or to which one of these leads."""
        bits = 0
        for saying in sayings:
            number = self._number(key_of(saying))
            bits = bits | self._led_to(saying) | (0 if number is None else 1 << number)
        return bits

    def holds(self, bits, saying):
        """Whether a saying about a told point is among these."""
        return (bits >> self._number(key_of(saying))) & 1 == 1

    def is_torn(self, bits):
        """Whether some saying and its contrary are among these."""
        return bits & (bits >> 1) & stretch(0, len(self.points)) != 0

    def on_rings(self):
        """The unsound sayings, ascending, that lead to their contraries and back: none if there is no ring."""
        there = [number for number in range(0, 2 * len(self.points), 2) if (self._beyond[number] >> (number + 1)) & 1]
        return [self._saying(number) for number in there if (self._beyond[number + 1] >> number) & 1]

    def leads(self, one, other):
        """Whether one saying leads to another one."""
        return self.reason_for(one, other) is not None or self._led_to(one) & self._last_steps(other) != 0

    def judged(self, saying):
        """Whether a saying is sure, never so or open, if there is no ring."""
        if self.leads(~saying, saying):
            return "sure"
        return "never" if self.leads(saying, ~saying) else "open"

    def layers(self, one):
        """The bits of the sayings to which a shortest chain has one step, two steps, and so on."""
        layers = []
        seen = 0
        layer = self._first_steps(one)
        while layer:
            layers.append(layer)
            seen = seen | layer
            ahead = 0
            for number in numbers_in(layer):
                ahead = ahead | self._by_time(number) | self._by_rows[number]
            layer = ahead & ~seen
        return layers

    def sayings_in(self, bits):
        """The sayings with these bits, ascending."""
        return [self._saying(number) for number in numbers_in(bits)]

    def shortest_way(self, one, other):
        """The sayings on a shortest chain from one to another one, both with them; None if there is none."""
        layers = [] if self.reason_for(one, other) is not None else self._layers_between(one, other)
        if layers is None:
            return None
        sayings = [other]
        for layer in layers[::-1]:
            before = self.sayings_in(layer & self._last_steps(sayings[-1]))
            sayings.append(before[0])
        return [one, *sayings[::-1]]

    def _layers_between(self, one, other):
        """The layers up to the first one from which a step leads to the other saying; None if none does."""
        last = self._last_steps(other)
        layers = self.layers(one)
        for at, layer in enumerate(layers):
            if layer & last:
                return layers[:at + 1]
        return None
