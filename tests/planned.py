"""A search of the tests' own over all plain histories, state by state: what is possible, settled and worth what [19] to [21].

A state is the tuple of the entries' outcomes, None for one that has none; the histories that are
left there are the bits of an integer.
"""

from made import plain_histories
from soundtill.entries import Entry
from soundtill.plans import Plan, Stall

WORDS = ("pass", "fail")


class Search:
    def __init__(self, book, menu, wanted):
        self.menu, self.wanted = list(menu), list(wanted)
        points = [point for entry in menu for point in ((entry.tool, entry.moment), (entry.by, entry.moment))]
        self.kept = plain_histories(book, points + [(saying.tool, saying.moment) for saying in wanted])
        self.all = (1 << len(self.kept)) - 1
        self.allowed = [self.allowed_by(entry) for entry in menu]
        self.truths = [self.bits(lambda history, saying=saying: history[saying.tool, saying.moment] == saying.is_sound) for saying in wanted]
        self.start = (None,) * len(self.menu)
        self.worths = {}

    def bits(self, test):
        return sum(1 << at for at, history in enumerate(self.kept) if test(history))

    def allowed_by(self, entry):
        """For each outcome the histories that keep its row, by what a check says [6]."""
        sound, by = self.bits(lambda history: history[entry.tool, entry.moment]), self.bits(lambda history: history[entry.by, entry.moment])
        return {"pass": self.all & ~(by & ~sound), "fail": self.all & ~(by & sound)}

    def left_in(self, state):
        bits = self.all
        for at, word in enumerate(state):
            if word is not None:
                bits &= self.allowed[at][word]
        return bits

    def behind(self, state, at, word):
        return tuple(word if k == at else old for k, old in enumerate(state))

    def possible(self, state, at):
        return [word for word in WORDS if self.left_in(self.behind(state, at, word))]

    def is_settled(self, state, at):
        bits = self.left_in(state)
        return self.truths[at] & bits in (0, bits)

    def unsettled(self, state):
        return [at for at in range(len(self.wanted)) if not self.is_settled(state, at)]

    def left(self, state):
        return [at for at, word in enumerate(state) if word is None]

    def worth(self, state):
        if state not in self.worths:
            costs = [] if self.unsettled(state) else [0]
            if not costs:
                for at in self.left(state):
                    behind = [self.worth(self.behind(state, at, word)) for word in self.possible(state, at)]
                    costs += [] if None in behind else [1 + max(behind)]
            self.worths[state] = min(costs) if costs else None
        return self.worths[state]

    def plan(self, state):
        """The plan that the document tells, None if there is none."""
        if self.worth(state) is None:
            return None
        if not self.unsettled(state):
            return Plan.done()
        for at in self.left(state):
            behind = {word: self.worth(self.behind(state, at, word)) for word in self.possible(state, at)}
            if None not in behind.values() and 1 + max(behind.values()) == self.worth(state):
                return Plan.ask(self.menu[at], *[self.plan(self.behind(state, at, word)) if word in behind else None for word in WORDS])

    def stall(self, state, most):
        """The stall that the document tells, None if the worth is at most so much."""
        if self.worth(state) is not None and self.worth(state) <= most:
            return None
        if most == 0 or not self.left(state):
            return Stall.end(self.unsettled(state)[0])
        answers = []
        for at in self.left(state):
            for word in self.possible(state, at):
                behind = self.behind(state, at, word)
                if self.worth(behind) is None or self.worth(behind) > most - 1:
                    answers.append((self.menu[at], word, self.stall(behind, most - 1)))
                    break
        return Stall.of(*answers)

    def does(self, state, thing):
        """Whether any value is a plan that does at a state."""
        if not isinstance(thing, Plan):
            return False
        if thing.entry is None:
            return not self.unsettled(state)
        places = [at for at in self.left(state) if self.menu[at] == thing.entry]
        if not self.unsettled(state) or not places:
            return False
        for word, branch in zip(WORDS, (thing.passed, thing.failed)):
            behind = self.behind(state, places[0], word)
            if not (self.does(behind, branch) if self.left_in(behind) else branch is None):
                return False
        return True

    def holds(self, state, most, thing):
        """Whether any value is a stall of a state with so many checks left."""
        if not isinstance(thing, Stall):
            return False
        left = self.left(state)
        if most == 0 or not left:
            return not thing.answers and type(thing.at) is int and thing.at in self.unsettled(state)
        if thing.at is not None or len(thing.answers) != len(left):
            return False
        for at, answer in zip(left, thing.answers):
            if not (isinstance(answer, tuple) and len(answer) == 3 and isinstance(answer[0], Entry)):
                return False
            entry, word, behind = answer
            if entry != self.menu[at] or word not in self.possible(state, at) or not self.holds(self.behind(state, at, word), most - 1, behind):
                return False
        return True


def other_plans(plan, menu):
    """Yields plans, and values in the place of plans, with one thing otherwise, wherever it is."""
    yield None
    if plan is None:
        yield Plan.done()
        return
    yield "done"
    for entry in menu:
        yield Plan.ask(entry, plan, plan)
        yield Plan.ask(entry, plan, None)
        yield Plan.ask(entry, None, plan)
    if plan.entry is None:
        return
    yield Plan.done()
    yield from (branch for branch in (plan.passed, plan.failed) if branch is not None)
    if plan.passed is not None or plan.failed is not None:
        for entry in menu:
            yield Plan.ask(entry, plan.passed, plan.failed)
        yield Plan.ask(plan.entry, plan.failed, plan.passed)
    for branch in other_plans(plan.passed, menu):
        if (branch is None or isinstance(branch, Plan)) and not (branch is None and plan.failed is None):
            yield Plan.ask(plan.entry, branch, plan.failed)
    for branch in other_plans(plan.failed, menu):
        if (branch is None or isinstance(branch, Plan)) and not (branch is None and plan.passed is None):
            yield Plan.ask(plan.entry, plan.passed, branch)


def other_stalls(stall, menu):
    """Yields stalls, and values in the place of stalls, with one thing otherwise, wherever it is."""
    yield from (None, 0, (), "end", Stall.of(), Stall.end(-1), Stall.end(3), Stall.end(True), Stall.end(None), Stall.of(stall), Stall.of(stall.answers))
    yield from (Stall.end(at) for at in range(3))
    answers = stall.answers
    if not answers:
        yield Stall.of((menu[0], "pass", stall) if menu else (stall,))
        return
    yield Stall.of(*answers[::-1])
    yield Stall.of(*answers, answers[-1])
    yield answers[0][2]
    for at, answer in enumerate(answers):
        entry, word, behind = answer
        others = [(entry, word), (entry, word, behind, behind), [entry, word, behind], (word, entry, behind), entry, None, (entry, None, behind), (None, word, behind),
                  (entry, "fail" if word == "pass" else "pass", behind), (entry, "done", behind), (str(entry), word, behind)]
        others += [(other, word, behind) for other in menu] + [(entry, word, other) for other in other_stalls(behind, menu)]
        for other in others:
            yield Stall.of(*answers[:at], other, *answers[at + 1:])
        yield Stall.of(*answers[:at], *answers[at + 1:])
