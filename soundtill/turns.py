"""Sets of turns: which turns of a life are possible."""

from soundtill.errors import BadTurn, BadTurns
from soundtill.histories import is_turn
from soundtill.sayings import Saying
from soundtill.words import is_moment


def is_stretch(first, last, value):
    """Whether any value is a tuple of a low and a high moment of the life from first to last."""
    if not isinstance(value, tuple) or len(value) != 2:
        return False
    low, high = value
    return is_moment(low) and is_moment(high) and first <= low <= high <= last


def fewest(stretches):
    """The fewest stretches that have the same moments, ascending."""
    joined = []
    for low, high in sorted(stretches):
        if joined and low <= joined[-1][1] + 1:
            before, end = joined.pop()
            joined.append((before, max(end, high)))
        else:
            joined.append((low, high))
    return tuple(joined)


def check_same_life(one, other):
    """Raises BadTurns if two sets of turns are not of the same moments."""
    if (one.low, one.high) != (other.low, other.high):
        raise BadTurns(None)


def stretch_word(low, high):
    """The word that tells a stretch."""
    return str(low) if low == high else f"{low}..{high}"


class Turns:
    """A set of turns of a life. It never changes."""

    def __init__(self, first, last, stretches=(), has_none=False):
        if not isinstance(stretches, (list, tuple)):
            raise BadTurns(None)
        for at, item in enumerate(stretches):
            if not is_stretch(first, last, item):
                raise BadTurns(at)
        self.low = first
        self.high = last
        self.stretches = fewest(stretches)
        self.has_none = has_none

    @staticmethod
    def whole(first, last):
        """All turns of the life with these moments."""
        return Turns(first, last, [(first, last)], True)

    @property
    def least(self):
        """The least moment among the turns; None if there is no moment."""
        return self.stretches[0][0] if self.stretches else None

    def __contains__(self, turn):
        if turn is None:
            return self.has_none
        return is_moment(turn) and any([low <= turn <= high for low, high in self.stretches])

    def __bool__(self):
        return bool(self.stretches or self.has_none)

    def __and__(self, other):
        check_same_life(self, other)
        pairs = [(max(low, least), min(high, most)) for low, high in self.stretches for least, most in other.stretches]
        common = [(low, high) for low, high in pairs if low <= high]
        return Turns(self.low, self.high, common, self.has_none and other.has_none)

    def __or__(self, other):
        check_same_life(self, other)
        return Turns(self.low, self.high, self.stretches + other.stretches, self.has_none or other.has_none)

    def __invert__(self):
        lows = [self.low] + [high + 1 for low, high in self.stretches]
        highs = [low - 1 for low, high in self.stretches] + [self.high]
        gaps = [(low, high) for low, high in zip(lows, highs) if low <= high]
        return Turns(self.low, self.high, gaps, not self.has_none)

    def within(self, other):
        """Whether all these turns are turns of another set."""
        return not bool(self & ~other)

    def __eq__(self, other):
        if not isinstance(other, Turns) or (self.low, self.high) != (other.low, other.high):
            return False
        return self.stretches == other.stretches and self.has_none == other.has_none

    def __str__(self):
        words = [stretch_word(low, high) for low, high in self.stretches]
        if self.has_none:
            words.append("none")
        return " ".join(words or ["nothing"])


def plain_turns(life, moments):
    """The plain turns of a life with these told moments, ascending."""
    _, beginning = life
    behind = [moment + 1 for moment in moments[:-1]]
    return [*([beginning] if moments else []), *behind, None]


def plain_blocks(lives, life, moments):
    """Each plain turn of a life with these told moments, and the bounds of the moments for which it stands.

    A plain turn stands for all turns from it up to the next told moment, None for all behind the
    greatest one and None itself. There may be no such moment: then the bounds are exchanged.
    """
    _, beginning = life
    lows = [beginning] + [moment + 1 for moment in moments]
    highs = [*moments, lives.last_of(life)]
    return list(zip(plain_turns(life, moments), lows, highs))


def turns_among(lives, life, blocks):
    """The turns of a life for which these plain turns stand."""
    _, beginning = life
    stretches = [(low, high) for turn, low, high in blocks if low <= high]
    return Turns(beginning, lives.last_of(life), stretches, None in [turn for turn, low, high in blocks])


def turn_sayings(lives, tool, moment, turn):
    """The sayings that are true exactly if the life of a point has this turn; any values."""
    life = lives.life_of(tool, moment)
    if not is_turn(lives, life, turn):
        raise BadTurn(life)
    if turn is None:
        return (Saying(tool, lives.last_of(life), True),)
    if turn == life[1]:
        return (Saying(tool, turn, False),)
    return Saying(tool, turn - 1, True), Saying(tool, turn, False)


def turns_of(judge, tool, moment):
    """All turns that the life of a point, any values, has in histories that keep the judge's book."""
    reach = judge.reach
    lives = reach.lives
    life = lives.life_of(tool, moment)
    possible = []
    for turn, low, high in plain_blocks(lives, life, reach.moments_in(life)):
        if not reach.is_torn(reach.forced(turn_sayings(lives, tool, moment, turn))):
            possible.append((turn, low, high))
    return turns_among(lives, life, possible)
