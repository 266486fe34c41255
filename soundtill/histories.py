"""Histories: a turn for each life, from which on the tool is unsound."""

from soundtill.errors import BadTurn, Unlike
from soundtill.sayings import Saying
from soundtill.words import is_moment


def is_turn(lives, life, turn):
    """Whether any value is a turn of one of these lives."""
    return turn is None or (is_moment(turn) and lives.life_of(life[0], turn) == life)


def place_of(turn):
    """A number by which turns are ordered: None stands behind all moments."""
    return Saying.MOST + 1 if turn is None else turn


def turn_word(turn):
    """The word that tells a turn."""
    return "none" if turn is None else str(turn)


def like_in(tool, lives, others):
    """Whether both lives have the tool, with the same beginnings."""
    if tool not in lives.tools or tool not in others.tools:
        return False
    return lives.beginnings(tool) == others.beginnings(tool)


def check_like(lives, others):
    """Raises Unlike with the least tool that is not the same in both lives."""
    for tool in sorted(set(lives.tools + others.tools)):
        if not like_in(tool, lives, others):
            raise Unlike(tool)


def plain_turn(history, points):
    """The plain turn of a life in which these are the told points, ascending."""
    sound = [moment for tool, moment in points if history[tool, moment]]
    if len(sound) == len(points):
        return None
    if sound:
        return sound[-1] + 1
    tool, moment = points[0]
    _, beginning = history.lives.life_of(tool, moment)
    return beginning


class History:
    """A turn for each of some lives. It never changes."""

    def __init__(self, lives, turns):
        if not isinstance(turns, dict) or len(turns) != len(lives) or not all([life in lives for life in turns]):
            raise BadTurn(None)
        for life in lives.listed:
            if not is_turn(lives, life, turns[life]):
                raise BadTurn(life)
        self._lives = lives
        self._turns = {life: turns[life] for life in lives.listed}

    @staticmethod
    def always(lives):
        """The history in which each tool is always sound."""
        return History(lives, {life: None for life in lives.listed})

    @staticmethod
    def middle(one, two, three):
        """The history that gives each life the middle one of its turns in three histories."""
        check_like(one.lives, two.lives)
        check_like(one.lives, three.lives)
        turns = {}
        for life in one.lives.listed:
            ascending = sorted([one.turn(*life), two.turn(*life), three.turn(*life)], key=place_of)
            turns[life] = ascending[1]
        return History(one.lives, turns)

    @property
    def lives(self):
        """The lives that have a turn here."""
        return self._lives

    @property
    def turns(self):
        """A new dict from the lives to their turns."""
        return {life: self._turns[life] for life in self._turns}

    def turn(self, tool, moment):
        """The turn of the life in which a point lies; both may be any values."""
        return self._turns[self._lives.life_of(tool, moment)]

    def __getitem__(self, at):
        tool, moment = at
        turn = self.turn(tool, moment)
        return turn is None or turn > moment

    def __iter__(self):
        raise TypeError("a history is not iterated over: ask for its turns")

    def _makes(self, saying):
        return self[saying.point] == saying.is_sound

    def __call__(self, saying):
        return self._makes(saying)

    def __eq__(self, other):
        return isinstance(other, History) and self._lives == other._lives and self._turns == other._turns

    def is_ahead(self, other):
        """Whether this history is ahead of another one of the same lives, turn by turn."""
        check_like(self._lives, other._lives)
        places = [place_of(turn) for turn in self._turns.values()]
        return places < [place_of(turn) for turn in other._turns.values()]

    def with_turn(self, tool, moment, turn):
        """The history in which the life of a point has another turn; all may be any values."""
        life = self._lives.life_of(tool, moment)
        turns = self.turns
        turns[life] = turn
        return History(self._lives, turns)

    def _check_book(self, book):
        lives = book.lives
        for tool in lives.tools:
            if not like_in(tool, lives, self._lives):
                raise Unlike(tool)

    def broken(self, book):
        """The number and the index of the first pair of a book that is true here; None if there is none."""
        self._check_book(book)
        lives = book.lives
        for number, row in book.rows():
            for at, (one, other) in enumerate(row.pairs(lives)):
                if self._makes(one) and self._makes(other):
                    return number, at
        return None

    def keeps(self, book):
        """Whether this history keeps a book."""
        return self.broken(book) is None

    def plain(self, book, *points):
        """The plain history that says the same of the points that are told by the book, or here."""
        self._check_book(book)
        for tool, moment in sorted(points):
            if tool not in self._lives.tools:
                raise Unlike(tool)
        told_in = {life: [] for life in self._lives.listed}
        for tool, moment in sorted(set(list(book.told) + list(points))):
            told_in[self._lives.life_of(tool, moment)].append((tool, moment))
        return History(self._lives, {life: plain_turn(self, told_in[life]) for life in told_in})

    def __str__(self):
        if not self._turns:
            return "nothing"
        return ", ".join([f"{tool} {beginning} {turn_word(turn)}" for (tool, beginning), turn in self._turns.items()])
