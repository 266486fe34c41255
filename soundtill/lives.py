"""Lives: the stretches of moments into which beginnings part the time of each tool."""

from soundtill.errors import NoLife, NoTool
from soundtill.words import GREATEST, check_form, is_whole


def with_first(tool, moments):
    """All beginnings of a tool, ascending; the moments are those of its lives behind the first one."""
    check_form(tool, "name")
    for moment in moments:
        check_form(moment, "beginning")
    later = sorted(set(moments))
    return (0, *later)


class Lives:
    """Which lives some tools have. It never changes."""

    def __init__(self, begun):
        self._begun = {tool: with_first(tool, begun[tool]) for tool in sorted(begun)}

    @property
    def tools(self):
        """The tools, ascending."""
        return tuple(self._begun)

    @property
    def listed(self):
        """All lives, ascending."""
        return tuple([(tool, moment) for tool, moments in self._begun.items() for moment in moments])

    def beginnings(self, tool):
        """The beginnings of the lives of a tool, any value, ascending."""
        if not isinstance(tool, str) or tool not in self._begun:
            raise NoTool(tool)
        return self._begun[tool]

    def life_of(self, tool, moment):
        """The life of a tool that has this moment; both may be any values."""
        beginnings = self.beginnings(tool)
        check_form(moment, "moment")
        return tool, max([beginning for beginning in beginnings if beginning <= moment])

    def last_of(self, life):
        """The last moment of a life, any value."""
        if life not in self:
            raise NoLife(life)
        tool, beginning = life
        return min([later for later in self._begun[tool] if later > beginning], default=GREATEST + 1) - 1

    def __contains__(self, life):
        if not isinstance(life, tuple) or len(life) != 2:
            return False
        tool, beginning = life
        if not isinstance(tool, str) or tool not in self._begun:
            return False
        # True equals 1, but is no moment.
        return is_whole(beginning) and beginning in self._begun[tool]

    def __len__(self):
        return len(self.listed)

    def __eq__(self, other):
        return isinstance(other, Lives) and self._begun == other._begun

    def __bool__(self):
        return bool(self._begun)


def with_tools(lives, tools):
    """The lives, and a first life of each of these tools that has none there."""
    begun = {tool: lives.beginnings(tool)[1:] for tool in lives.tools}
    for tool in tools:
        begun.setdefault(tool, ())
    return Lives(begun)
