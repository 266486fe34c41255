"""Lists of sayings: whether all of them can be true together."""

from soundtill.errors import TooMany
from soundtill.judge import history_in
from soundtill.sayings import Saying

MOST_SAYINGS = 200


class Listed:
    """The base class of what is told of lists, of what each of them does. It never changes."""

    def __bool__(self):
        return bool(isinstance(self, Together))

    def __eq__(self, other):
        return False


class Together(Listed):
    """All sayings of a list are true in a history that keeps the book."""

    def __init__(self, sayings, history):
        self.word = "together"
        self.sayings = tuple(sayings)
        self.history = history

    def __bool__(self):
        return True

    def __eq__(self, other):
        return isinstance(other, Together) and self.sayings == other.sayings and self.history == other.history


class Apart(Listed):
    """Two sayings of a list clash: a chain leads from the one to the contrary of the other, or they are contraries."""

    def __init__(self, sayings, one, other, chain):
        self.word = "apart"
        self.sayings = tuple(sayings)
        self.one = one
        self.other = other
        self.chain = chain

    def __bool__(self):
        return False

    def __eq__(self, other):
        if not isinstance(other, Apart) or self.sayings != other.sayings:
            return False
        return self.one == other.one and self.other == other.other and self.chain == other.chain


def checked_net(judge, sayings):
    """What leads to what, with the points of the sayings told; raises TooMany or NoTool."""
    if len(sayings) > MOST_SAYINGS:
        raise TooMany("sayings", MOST_SAYINGS)
    return judge.net_with(sayings)


def least_clash(net, sayings):
    """The least pair of indexes of sayings about told points that clash; None if none do."""
    for one, saying in enumerate(sayings):
        held = net.forced([saying])
        # Clashing goes both ways, so none ahead of the first such saying clashes with it.
        for other, following in enumerate(sayings):
            if net.holds(held, ~following):
                return one, other
    return None


def together(judge, sayings):
    """A Together of the sayings, or an Apart with the first two that clash."""
    net = checked_net(judge, sayings)
    history = history_in(net, sayings)
    if history is not None:
        return Together(sayings, history)
    one, other = least_clash(net, sayings)
    end = ~sayings[other]
    chain = None if sayings[one] == end else judge.reach.shortest(sayings[one], end)
    return Apart(sayings, one, other, chain)


def grown(judge, sayings):
    """The indexes of the sayings that are each together with all those taken before."""
    net = checked_net(judge, sayings)
    taken, held = [], 0
    for at, saying in enumerate(sayings):
        more = held | net.forced([saying])
        if not net.is_torn(more):
            taken.append(at)
            held = more
    return taken


def torn_pairs(net, held):
    """Yields the pairs of names, ascending, whose sayings, told by their bits, cannot all be true."""
    names = sorted(held)
    for at, name in enumerate(names):
        for other in names[at + 1:]:
            if net.is_torn(held[name] | held[other]):
                yield name, other


def shut(judge):
    """Yields the pairs of names, ascending, of records that can be sound each, but not both."""
    reach = judge.reach
    held = {}
    for name, (tool, moment) in judge.book.records.items():
        bits = reach.forced([Saying(tool, moment, True)])
        if not reach.is_torn(bits):
            held[name] = bits
    yield from torn_pairs(reach, held)
