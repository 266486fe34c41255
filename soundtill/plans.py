"""Plans: which checks settle what is wanted, and why fewer do not."""

from soundtill.entries import CHECK, Entry
from soundtill.errors import BadEntry, BadText, TooMany
from soundtill.states import OUTCOMES, States
from soundtill.texts import check_alone, lines_of
from soundtill.words import first_wrong, is_whole, told_by

MOST_ENTRIES = 4
MOST_POINTS = 60


class Plan:
    """What to do at a state: nothing more, or a check, and then a plan for each outcome. It never changes."""

    def __init__(self, entry, passed, failed):
        self.entry = entry
        # Not self.passed and self.failed: an Entry has properties of these names, without setters.
        self._passed = passed
        self._failed = failed

    @property
    def passed(self):
        """The plan for the outcome "pass", or None."""
        return self._passed

    @property
    def failed(self):
        """The plan for the outcome "fail", or None."""
        return self._failed

    @staticmethod
    def done():
        """The plan to do nothing more."""
        return Plan(None, None, None)

    @staticmethod
    def ask(entry, passed, failed):
        """The plan to make a check, and then to follow a plan, or None, for its outcome; any values."""
        if not isinstance(entry, Entry):
            raise BadEntry(0)
        for at, branch in ((1, passed), (2, failed)):
            if branch is not None and not isinstance(branch, Plan):
                raise BadEntry(at)
        if passed is None and failed is None:
            raise BadEntry(2)
        return Plan(entry, passed, failed)

    @classmethod
    def read(cls, text):
        """The plan with this text, any value."""
        lines = lines_of(text)
        found, at = plan_from(lines[0], 0, 0, False)
        if at < len(lines[0]):
            raise BadText(0, at)
        check_alone(lines)
        return found

    def _branches(self):
        return [branch for branch in (self.passed, self.failed) if branch is not None]

    def _entries(self):
        if self.entry is None:
            return []
        return [self.entry] + [entry for branch in self._branches() for entry in branch._entries()]

    def __len__(self):
        return len(self._entries())

    @property
    def depth(self):
        """The greatest number of entries on a way."""
        return 0 if self.entry is None else 1 + max([branch.depth for branch in self._branches()])

    def __eq__(self, other):
        if not isinstance(other, Plan):
            return False
        return self.entry == other.entry and self.passed == other.passed and self.failed == other.failed

    def __str__(self):
        if self.entry is None:
            return "done"
        return f"{self.entry!s} {branch_text(self.passed)} {branch_text(self.failed)}"

    def branch(self, word):
        """The plan behind an outcome, any value; None if there is none."""
        if word == "pass":
            return self.passed
        return self.failed if word == "fail" else None

    def __call__(self, answer):
        told, here = [], self
        while here.entry is not None:
            word = answer(here.entry)
            told.append((here.entry, word))
            here = here.branch(word)
            if here is None:
                raise BadEntry(len(told) - 1)
        return tuple(told)


class Stall:
    """Why some checks do not settle what is wanted: an answer to each that leaves it open. It never changes."""

    def __init__(self, at, answers, is_end):
        self.at = at
        self.answers = answers
        # An end may be of any value, also of None, so its index does not tell that it is one.
        self._is_end = is_end

    @staticmethod
    def end(at):
        """The stall of a state at which the wanted saying with this index, any value, is not settled."""
        return Stall(at, (), True)

    @staticmethod
    def of(*answers):
        """The stall with these answers, any values: a tuple of an entry, an outcome and a stall for each entry left."""
        return Stall(None, answers, False)

    def _ends(self):
        if self._is_end:
            return [self]
        return [end for answer in self.answers for end in stall_in(answer)._ends()]

    def __len__(self):
        return len(self._ends())

    def __eq__(self, other):
        return isinstance(other, Stall) and self.at == other.at and self.answers == other.answers


def stall_in(answer):
    """The stall of an answer, any value; one without ends if there is none."""
    if isinstance(answer, tuple) and len(answer) == 3 and isinstance(answer[2], Stall):
        return answer[2]
    return Stall.of()


def branch_text(branch):
    """The text of a branch of a plan."""
    return "none" if branch is None else str(branch)


def plan_from(words, at, checks, may_be_none):
    """The plan, or None, that the words from the index at tell behind so many checks, and the index behind it."""
    word = words[at] if at < len(words) else ""
    if word == "done":
        return Plan.done(), at + 1
    if word == "none" and may_be_none:
        return None, at + 1
    if word != "check" or checks == MOST_ENTRIES:
        raise BadText(0, at)
    told = words[at:at + len(CHECK)]
    wrong = first_wrong(told, CHECK)
    if wrong is not None:
        raise BadText(0, at + wrong)
    _, tool, moment, _, by = told_by(0, told, CHECK)
    passed, behind = plan_from(words, at + len(CHECK), checks + 1, True)
    failed, behind = plan_from(words, behind, checks + 1, passed is not None)
    return Plan.ask(Entry(tool, moment, by), passed, failed), behind


def check_menu(menu):
    """Raises the errors of a menu, any value."""
    if not isinstance(menu, (list, tuple)):
        raise BadEntry(None)
    for at, item in enumerate(menu):
        if not isinstance(item, Entry) or item in menu[:at]:
            raise BadEntry(at)
    if len(menu) > MOST_ENTRIES:
        raise TooMany("entries", MOST_ENTRIES)


def states_for(book, menu, wanted):
    """The states of a book for a menu, any value, and wanted sayings."""
    check_menu(menu)
    states = States(book, menu, wanted)
    if len(states.points) > MOST_POINTS:
        raise TooMany("points", MOST_POINTS)
    return states


def is_above(number, most):
    """Whether a worth is greater than a number; None is."""
    return number is None or number > most


def worth(book, menu, wanted):
    """How many checks of the menu settle the wanted sayings, whatever comes out; None if all do not."""
    states = states_for(book, menu, wanted)
    return states.worth_at(states.start)


def plan(book, menu, wanted):
    """A plan that settles the wanted sayings with as few checks as can be; None if there is none."""
    states = states_for(book, menu, wanted)
    return None if states.worth_at(states.start) is None else plan_at(states, states.start)


def plan_at(states, state):
    """The plan of a state whose worth is not None."""
    if not states.unsettled(state):
        return Plan.done()
    best = [at for at in states.left(state) if states.cost(state, at) == states.worth_at(state)][0]
    possible = states.possible(state, best)
    passed, failed = [
        plan_at(states, states.behind(state, best, word)) if word in possible else None for word in OUTCOMES
    ]
    return Plan.ask(states.entries[best], passed, failed)


def stall(book, menu, wanted, most):
    """What shows that the wanted sayings need more than so many checks; None if they do not."""
    states = states_for(book, menu, wanted)
    return stall_at(states, states.start, most) if is_above(states.worth_at(states.start), most) else None


def stall_at(states, state, most):
    """The stall of a state whose worth is above most."""
    left = states.left(state)
    if most == 0 or not left:
        return Stall.end(states.unsettled(state)[0])
    answers = [answer_at(states, state, at, most - 1) for at in left]
    return Stall.of(*answers)


def answer_at(states, state, at, most):
    """The answer to the entry with the index at: the first outcome behind which the worth is above most."""
    words = states.possible(state, at)
    word = [word for word in words if is_above(states.worth_at(states.behind(state, at, word)), most)][0]
    return states.entries[at], word, stall_at(states, states.behind(state, at, word), most)


def shows_plan(book, menu, wanted, thing):
    """Whether any value is a plan that settles the wanted sayings with entries of the menu."""
    states = states_for(book, menu, wanted)
    return does_at(states, states.start, thing)


def does_at(states, state, thing):
    """Whether any value is a plan that does at a state."""
    if not isinstance(thing, Plan):
        return False
    if thing.entry is None or not states.unsettled(state):
        return thing.entry is None and not states.unsettled(state)
    left = [at for at in states.left(state) if states.entries[at] == thing.entry]
    if not left:
        return False
    possible = states.possible(state, left[0])
    for word in OUTCOMES:
        branch = thing.branch(word)
        if word not in possible and branch is not None:
            return False
        if word in possible and not does_at(states, states.behind(state, left[0], word), branch):
            return False
    return True


def shows_stall(book, menu, wanted, most, thing):
    """Whether any value is a stall that shows that the wanted sayings need more than so many checks."""
    states = states_for(book, menu, wanted)
    return stalls_at(states, states.start, most, thing)


def stalls_at(states, state, most, thing):
    """Whether any value is a stall of a state with so many checks left."""
    if not isinstance(thing, Stall):
        return False
    left = states.left(state)
    if most == 0 or not left:
        return is_whole(thing.at) and thing.at in states.unsettled(state)
    if len(thing.answers) != len(left):
        return False
    return all([holds_out(states, state, at, most - 1, answer) for at, answer in zip(left, thing.answers)])


def holds_out(states, state, at, most, answer):
    """Whether any value is an answer to the entry with the index at, with so many checks left behind it."""
    if not isinstance(answer, tuple) or len(answer) != 3:
        return False
    entry, word, thing = answer
    if entry != states.entries[at] or word not in states.possible(state, at):
        return False
    return stalls_at(states, states.behind(state, at, word), most, thing)
