"""Turns of a life and what shows them, looked at [5] [8]."""

import random

from kit import STRANGE, TOP, Case
from made import kept_book
from soundtill.books import Book
from soundtill.chains import Chain, Reach, Step
from soundtill.errors import BadMoment, NoTool
from soundtill.histories import History
from soundtill.judge import Judge
from soundtill.lives import Lives
from soundtill.lists import together
from soundtill.lookers import Looker
from soundtill.rows import Agreed, Begun, Failed, Found, Passed, Trusted
from soundtill.sayings import Saying
from soundtill.turns import Turns, turn_sayings, turns_of


def plain(book, tool, moment):
    """The plain turns of the life of a point, by the told points and this point."""
    lives = book.lives
    life = lives.life_of(tool, moment)
    moments = sorted({told for name, told in book.told if lives.life_of(name, told) == life} | {moment})
    return [life[1], *[told + 1 for told in moments[:-1]], None]


def shown(book, tool, moment):
    """What shows the turns of the life of a point: for each plain turn a history, or a chain that excludes it."""
    judge, papers = Judge(book), []
    for turn in plain(book, tool, moment):
        paper = together(judge, turn_sayings(book.lives, tool, moment, turn))
        papers.append((turn, paper.history if paper else paper.chain))
    return papers


def with_item(papers, at, item):
    return [*papers[:at], item, *papers[at + 1:]]


class Right(Case):
    def test_all_points_of_small_books(self):
        source, kinds = random.Random(341), []
        for _ in range(45):
            book = kept_book(source)
            looker = Looker(book)
            for life in book.lives.listed:
                tool, beginning = life
                last = book.lives.last_of(life)
                told = [moment for name, moment in book.told if name == tool and beginning <= moment <= last]
                asked = {beginning, last, min(last, beginning + 3), *told[:2], *[min(moment + 1, last) for moment in told]}
                for moment in asked:
                    papers = shown(book, tool, moment)
                    turns = turns_of(Judge(book), tool, moment)
                    self.assertIs(looker.shows_turns(tool, moment, turns, papers), True)
                    self.assertIs(looker.shows_turns(tool=tool, moment=moment, thing=turns, papers=tuple(papers)), True)
                    kinds += [type(paper) for turn, paper in papers]
                    self.check_otherwise(looker, tool, moment, turns, papers, source)
        self.assertGreater(min(kinds.count(Chain), kinds.count(History)), 150)

    def check_otherwise(self, looker, tool, moment, turns, papers, source):
        """With one thing otherwise they are not shown."""
        at = source.randrange(len(papers))
        turn, paper = papers[at]
        wrong = [papers[:at] + papers[at + 1:], papers[:at] + [papers[at]] + papers[at:], papers + [papers[-1]], papers[1:], papers[:-1], []]
        if len(papers) > 1:
            wrong.append(papers[::-1])
            other = papers[(at + 1) % len(papers)]
            wrong += [with_item(papers, at, other), with_item(papers, at, (other[0], paper))]
            if isinstance(paper, History) or isinstance(other[1], History):
                wrong.append(with_item(papers, at, (turn, other[1])))
        wrong += [with_item(papers, at, item) for item in (None, turn, paper, (paper, turn), (turn,), (turn, paper, paper), [turn, paper], (turn, None), (turn, turn))]
        wrong += [with_item(papers, at, (value, paper)) for value in (TOP + 1, -1, "x", (), True) if value != turn or value is True]
        for things in wrong:
            self.assertIs(looker.shows_turns(tool, moment, turns, things), False)
            self.assertIs(looker.shows_turns(tool, moment, turns, tuple(things)), False)
        for other in (~turns, Turns(turns.low, turns.high, turns.stretches, not turns.has_none), Turns(turns.low, turns.high, turns.stretches[1:], turns.has_none),
                      Turns(turns.low, turns.high + 1, turns.stretches, turns.has_none), str(turns), turns.stretches, None):
            if other != turns:
                self.assertIs(looker.shows_turns(tool, moment, other, papers), False)


class ByHand(Case):
    BOOK = Book(Agreed("a", 3, "b", 9), Passed("a", 8, "b"))

    TURNS = Turns(0, TOP, [(0, 3), (9, TOP)], True)

    def chain(self, start, end):
        """From a sound at one moment to a sound at another one."""
        return Reach(self.BOOK).shortest(Saying.sound("a", start), Saying.sound("a", end))

    def papers(self):
        early = History(self.BOOK.lives, {("a", 0): 0, ("b", 0): 0})
        return [(0, early), (4, self.chain(3, 4)), (None, History.always(self.BOOK.lives))]

    def test_the_example_of_turns(self):
        looker = Looker(self.BOOK)
        early, excluded, always = self.papers()
        for moment in (3, 8):
            self.assertIs(looker.shows_turns("a", moment, self.TURNS, [early, excluded, always]), True)
        # Another moment is told, too: one plain turn more.
        for moment in (0, 5, 7, 9, TOP):
            self.assertIs(looker.shows_turns("a", moment, self.TURNS, [early, excluded, always]), False)
        later = (6, self.chain(5, 6))
        for papers, is_right in (([early, excluded, later, always], True), ([early, later, excluded, always], False), ([early, excluded, (6, excluded[1]), always], False),
                                 ([early, (4, later[1]), later, always], False), ([early, (4, self.chain(3, 8)), later, always], False),
                                 ([early, (4, self.chain(4, 6)), later, always], False), ([early, (4, self.chain(3, 5)), later, always], False),
                                 ([early, excluded, (6, self.chain(3, 6)), always], False)):
            self.assertIs(looker.shows_turns("a", 5, self.TURNS, papers), is_right)

    def test_a_chain_turned(self):
        early, (turn, chain), always = self.papers()
        # Turned it leads from the other one of the two sayings to the contrary of the one: this shows the same.
        self.assertIs(Looker(self.BOOK).shows_turns("a", 3, self.TURNS, [early, (turn, ~chain), always]), True)

    def test_a_saying_to_its_own_contrary(self):
        book = Book(Found("a", 3, False), Found("a", 6, False))
        looker, reach = Looker(book), Reach(book)
        early = (0, History(book.lives, {("a", 0): 0}))
        turns = Turns(0, TOP, [(0, 3)])
        low, high = [reach.shortest(Saying.sound("a", moment), Saying.unsound("a", moment)) for moment in (3, TOP)]
        self.assertIs(looker.shows_turns("a", 6, turns, [early, (4, low), (None, high)]), True)
        self.assertIs(looker.shows_turns("a", 6, turns, [early, (4, high), (None, low)]), False)

    def test_how_many_steps(self):
        for most in range(1, 6):
            self.assertIs(Looker(self.BOOK, most).shows_turns("a", 8, self.TURNS, self.papers()), most >= 4)

    def test_a_history_with_another_turn_of_the_same_stretch(self):
        early, (turn, chain), always = self.papers()
        turns = self.TURNS
        for other, is_right in ((0, True), (1, False), (3, False)):
            history = early[1].with_turn("a", 0, other)
            self.assertIs(Looker(self.BOOK).is_history(history), True)
            self.assertIs(Looker(self.BOOK).shows_turns("a", 3, turns, [(0, history), (turn, chain), always]), is_right)
        late = always[1].with_turn("a", 0, 12)
        self.assertIs(Looker(self.BOOK).is_history(late), True)
        self.assertIs(Looker(self.BOOK).shows_turns("a", 3, turns, [early, (turn, chain), (None, late)]), False)
        self.assertIs(Looker(self.BOOK).shows_turns("a", 3, turns, [early, (turn, chain), (9, late)]), False)

    def test_a_history_that_does_not_keep_the_book(self):
        early, _, always = self.papers()
        wrong = always[1].with_turn("a", 0, 4)
        for turns in (Turns.whole(0, TOP), self.TURNS):
            self.assertIs(Looker(self.BOOK).shows_turns("a", 3, turns, [early, (4, wrong), always]), False)
        self.assertIs(Looker(Book(Agreed("a", 3, "b", 9))).shows_turns("a", 8, Turns.whole(0, TOP), [early, (4, always[1].with_turn("a", 0, 4)), always]), True)
        other = History.always(Lives({"a": [], "b": [], "c": []}))
        self.assertIs(Looker(self.BOOK).shows_turns("a", 3, self.TURNS, [*self.papers()[:2], (None, other)]), False)

    def test_the_last_moment_and_lives_without_told_points(self):
        book = Book(Begun("a", 4), Begun("a", 5), Trusted("b"))
        looker, always = Looker(book), History.always(book.lives)
        for first, last, moment in ((0, 3, 3), (4, 4, 4)):
            papers = [(first, always.with_turn("a", first, first)), (None, always)]
            # The told moment is the last one: None stands for itself alone.
            self.assertIs(looker.shows_turns("a", moment, Turns.whole(first, last), papers), True)
            self.assertIs(looker.shows_turns("a", moment, Turns(first, last, [(first, last)]), papers), False)
            self.assertIs(looker.shows_turns("a", moment, Turns(first, last, [], True), papers), False)
        self.assertIs(looker.shows_turns("a", 0, Turns.whole(0, 3), [(0, always.with_turn("a", 0, 0)), (None, always)]), True)
        chain = Chain(Step(Saying.unsound("b", 0), Saying.unsound("b", TOP), "time"), Step(Saying.unsound("b", TOP), Saying.sound("b", TOP), 2),
                      Step(Saying.sound("b", TOP), Saying.sound("b", 0), "time"))
        whole = Chain(*chain.steps[1:2])
        self.assertIs(looker.shows_turns("b", TOP, Turns(0, TOP, [], True), [(0, chain), (None, always)]), True)
        self.assertIs(looker.shows_turns("b", TOP, Turns(0, TOP, [], True), [(0, whole), (None, always)]), False)
        six = Chain(Step(Saying.unsound("b", 6), Saying.unsound("b", TOP), "time"), chain[1], Step(Saying.sound("b", TOP), Saying.sound("b", 6), "time"))
        self.assertIs(looker.shows_turns("b", 5, Turns(0, TOP, [], True), [(0, chain), (6, six), (None, always)]), True)
        self.assertIs(looker.shows_turns("b", 5, Turns(0, TOP, [], True), [(0, chain), (6, whole), (None, always)]), False)

    def test_all_turns_excluded(self):
        book = Book(Found("a", 5, True), Found("a", 5, False))
        there, back = Step(Saying.unsound("a", 5), Saying.sound("a", 5), 0), Step(Saying.sound("a", 5), Saying.unsound("a", 5), 1)
        low = Chain(Step(Saying.unsound("a", 0), Saying.unsound("a", 5), "time"), there, Step(Saying.sound("a", 5), Saying.sound("a", 0), "time"))
        high = Chain(Step(Saying.sound("a", TOP), Saying.sound("a", 5), "time"), back, Step(Saying.unsound("a", 5), Saying.unsound("a", TOP), "time"))
        self.assertIs(Looker(book).shows_turns("a", 5, Turns(0, TOP), [(0, low), (None, high)]), True)
        self.assertIs(Looker(book).shows_turns("a", 5, Turns(0, TOP), [(0, high), (None, low)]), False)
        self.assertIs(Looker(book).shows_turns("a", 5, Turns(0, TOP), [(0, low), (None, low)]), False)


class Wrong(Case):
    def test_no_tool_ahead_of_bad_moment(self):
        book = ByHand.BOOK
        looker = Looker(book)
        for tool in [None, True, 0, "c", *STRANGE]:
            self.refused(lambda: looker.shows_turns(tool, 3, None, None), NoTool, tool)
            self.refused(lambda: looker.shows_turns(tool, -1, None, None), NoTool, tool)
        for moment in [None, True, False, "a", *STRANGE]:
            self.refused(lambda: looker.shows_turns("a", moment, None, None), BadMoment, moment)
            self.refused(lambda: looker.shows_turns("a", moment, Turns.whole(0, TOP), ()), BadMoment, moment)
        self.refused(lambda: Looker(Book()).shows_turns("a", 3, None, None), NoTool, "a")

    def test_any_values(self):
        book = Book(Failed("a", 3, "b"))
        looker, turns, papers = Looker(book), turns_of(Judge(book), "a", 3), shown(book, "a", 3)
        self.assertIs(looker.shows_turns("a", 3, turns, papers), True)
        for value in [None, True, False, 0, "none", turns, book, looker, dict(papers), *STRANGE]:
            self.assertIs(looker.shows_turns("a", 3, turns, value), False)
            self.assertIs(looker.shows_turns("a", 3, value, value), False)
            if value is not turns:
                self.assertIs(looker.shows_turns("a", 3, value, papers), False)
            for at in range(len(papers)):
                self.assertIs(looker.shows_turns("a", 3, turns, with_item(papers, at, value)), False)
                self.assertIs(looker.shows_turns("a", 3, turns, with_item(papers, at, (papers[at][0], value))), False)
                if not (value is None and papers[at][0] is None) and not (value == 0 and value is not False and papers[at][0] == 0):
                    self.assertIs(looker.shows_turns("a", 3, turns, with_item(papers, at, (value, papers[at][1]))), False)

    def test_a_bool_is_no_turn(self):
        book = Book(Begun("a", 1), Found("b", 0, False))
        looker, always = Looker(book), History.always(book.lives).with_turn("b", 0, 0)
        papers = [(1, always.with_turn("a", 1, 1)), (None, always)]
        self.assertIs(looker.shows_turns("a", 1, Turns.whole(1, TOP), papers), True)
        self.assertIs(looker.shows_turns("a", 1, Turns.whole(1, TOP), [(True, papers[0][1]), papers[1]]), False)
