"""Sayings: a tool was sound at a moment, or unsound."""

from soundtill.words import check_form, told_by, word_of, words_of


class Saying:
    """A point with a truth. It never changes."""

    # 10 ** 30, the greatest moment.
    MOST = 1000000000000000000000000000000

    def __init__(self, tool, moment, is_sound):
        check_form(tool, "name")
        check_form(moment, "moment")
        check_form(is_sound, "truth")
        self.tool = tool
        self.moment = moment
        self.is_sound = is_sound

    @staticmethod
    def sound(tool, moment):
        """The saying that the tool is sound at the moment."""
        return Saying(tool, moment, True)

    @staticmethod
    def unsound(tool, moment):
        """The saying that the tool is unsound at the moment."""
        return Saying(tool, moment, False)

    @classmethod
    def read(cls, text):
        """The saying with this text, any value."""
        tool, moment, is_sound = told_by(0, words_of(text), ("name", "moment", "truth"))
        return cls(tool, moment, is_sound)

    @property
    def point(self):
        """The tuple of the tool and the moment."""
        return self.tool, self.moment

    def __invert__(self):
        return Saying(self.tool, self.moment, not self.is_sound)

    def __lshift__(self, n):
        return Saying(self.tool, self.moment + n, self.is_sound)

    def renamed(self, names):
        """The saying with another tool, if its tool is a key of names."""
        return Saying(names.get(self.tool, self.tool), self.moment, self.is_sound)

    def __eq__(self, other):
        if not isinstance(other, Saying):
            return False
        return self.point == other.point and self.is_sound == other.is_sound

    def is_ahead(self, other):
        """Whether this saying is ahead of another one: by tool, by moment, unsound ahead of sound."""
        if self.point != other.point:
            return self.point < other.point
        return other.is_sound and not self.is_sound

    def __str__(self):
        return " ".join([self.tool, str(self.moment), word_of(self.is_sound)])
