"""All plain histories that keep a book, in their order."""

from soundtill.errors import TooMany
from soundtill.histories import History
from soundtill.turns import plain_turns, turn_sayings


def life_choices(net, life):
    """For each plain turn of a life, ascending, a tuple of it and the bits of the told sayings that it forces."""
    tool, beginning = life
    turns = plain_turns(life, net.moments_in(life))
    return [(turn, net.forced(turn_sayings(net.lives, tool, beginning, turn))) for turn in turns]


def each_plain(net, held):
    """Yields the tuple of the turns of each plain history in which the held sayings are true, in order."""
    choices = [life_choices(net, life) for life in net.lives.listed]
    # Each tuple of turns that is not torn is the beginning of a history, so no way here is in vain.
    waiting = [((), held)]
    while waiting:
        turns, bits = waiting.pop()
        if len(turns) == len(choices):
            yield turns
        else:
            options = [(turns + (turn,), bits | more) for turn, more in choices[len(turns)]]
            waiting.extend([option for option in options[::-1] if not net.is_torn(option[1])])


def with_turns(net, turns):
    """The history in which the lives of a net have these turns, in their order."""
    return History(net.lives, dict(zip(net.lives.listed, turns)))


def histories(judge):
    """Yields the plain histories that keep the judge's book, in order."""
    for turns in each_plain(judge.reach, 0):
        yield with_turns(judge.reach, turns)


def first_history(judge, *sayings):
    """The first plain history that keeps the judge's book and makes the sayings true; None if there is none."""
    net = judge.net_with(sayings)
    held = net.forced(sayings)
    for turns in each_plain(net, held):
        return with_turns(net, turns)
    return None


def count(judge, most=1000):
    """How many plain histories keep the judge's book; raises TooMany if there are more than most."""
    many = 0
    for _ in each_plain(judge.reach, 0):
        many = many + 1
        if many > most:
            raise TooMany("histories", most)
    return many
