"""What holds of whole books: each answer is shown by a paper that a looker takes, also for a book moved and renamed."""

import itertools
import random

from kit import TOP, Case
from made import books, keeping, some_row
from soundtill.books import Book
from soundtill.chains import Chain, Reach, Step
from soundtill.entries import Entry, outcomes, settles
from soundtill.errors import Contradicted
from soundtill.follows import Broken, Follows, follows, shown_row
from soundtill.histories import History
from soundtill.judge import Judge, Never, Open, Sure
from soundtill.known import changes
from soundtill.lists import Apart, Together, together
from soundtill.lookers import Looker
from soundtill.rows import Found
from soundtill.sayings import Saying
from soundtill.turns import turns_of


def asked_sayings(book, source):
    """Both sayings about each told point, and about some others."""
    more = [(source.choice(book.tools), source.randint(0, 9)) for _ in range(3)] if book.tools else []
    return [Saying(*point, truth) for point in sorted({*book.told, *more}) for truth in (False, True)]


class Answers(Case):
    def test_each_answer_is_shown(self):
        source, seen = random.Random(431), []
        for book in itertools.chain(books(110, 432), books(60, 433, tools="ab", top=3, most=9)):
            looker, ring = Looker(book), Reach(book).ring()
            try:
                judge = Judge(book)
            except Contradicted:
                self.assertIs(looker.is_ring(ring), True)
                seen.append("ring")
                continue
            self.assertIs(ring, None)
            sayings = asked_sayings(book, source)
            for saying in sayings:
                verdict = judge.shown(saying)
                self.assertEqual((looker(verdict), verdict.word, bool(verdict)), (True, judge(saying), judge(saying) != "open"))
                seen.append(verdict.word)
            for _ in range(6 if sayings else 0):
                told = [source.choice(sayings) for _ in range(source.randint(1, 5))]
                paper = together(judge, told)
                self.assertIs(looker(paper), True)
                seen.append(paper.word)
                row = some_row(source, book.tools, 6)
                if not row.begins:
                    paper = shown_row(judge, row)
                    self.assertEqual((looker(paper), bool(paper)), (True, follows(judge, row)))
                    seen.append(paper.word)
        for word in ("ring", "sure", "never", "open", "together", "apart", "follows", "broken"):
            self.assertGreater(seen.count(word), 20, word)

    def test_a_ring_exactly_if_contradicted(self):
        count = 0
        for book in books(120, 434, most=9):
            kept, ring = keeping(book), Reach(book).ring()
            self.assertEqual(ring is None, bool(kept))
            if not kept:
                count += 1
                self.refused_somewhere(book)
        self.assertGreater(count, 15)

    def refused_somewhere(self, book):
        """A judge names the least number up to which the rows have a ring of their own."""
        least, part = None, Book()
        for number, row in book.rows():
            part += row
            if Reach(part).ring() is not None:
                least = number
                break
        self.refused(lambda: Judge(book), Contradicted, least)

    def test_a_saying_is_sure_exactly_if_its_contrary_is_never_so(self):
        source = random.Random(435)
        for book in books(80, 436):
            if keeping(book):
                judge = Judge(book)
                for saying in asked_sayings(book, source):
                    self.assertEqual({"sure": "never", "never": "sure", "open": "open"}[judge(saying)], judge(~saying))
                    self.assertEqual(changes(book, saying)[-1][1], judge(saying))


class Mapped:
    """A book moved or renamed, and how its sayings and papers are."""

    def __init__(self, book, ticks, names):
        self.ticks, self.names = ticks, names
        self.book = (book << ticks).renamed(names)

    def moment(self, moment):
        # The last moment of all stays where it is.
        return moment if moment == TOP else moment + self.ticks

    def point(self, tool, moment):
        return self.names[tool], self.moment(moment)

    def saying(self, saying):
        return Saying(*self.point(*saying.point), saying.is_sound)

    def chain(self, chain):
        return None if chain is None else Chain(*[Step(self.saying(step.one), self.saying(step.other), step.reason) for step in chain.steps])

    def history(self, history):
        turns = {}
        for (tool, beginning), turn in history.turns.items():
            life = self.names[tool], beginning + self.ticks if beginning else 0
            # Never sound stays so.
            turns[life] = life[1] if turn == beginning else None if turn is None else self.moment(turn)
        return History(self.book.lives, turns)

    def paper(self, paper, row):
        if isinstance(paper, (Sure, Never)):
            return type(paper)(self.saying(paper.saying), self.chain(paper.chain))
        if isinstance(paper, Open):
            return Open(self.saying(paper.saying), self.history(paper.yes), self.history(paper.no))
        if isinstance(paper, Together):
            return Together([self.saying(saying) for saying in paper.sayings], self.history(paper.history))
        if isinstance(paper, Apart):
            return Apart([self.saying(saying) for saying in paper.sayings], paper.one, paper.other, self.chain(paper.chain))
        if isinstance(paper, Follows):
            return Follows(row, [self.chain(chain) for chain in paper.chains])
        return Broken(row, self.history(paper.history))


class Same(Case):
    def mapped(self, count, seed):
        source = random.Random(seed)
        for book in books(count, seed + 1):
            names = dict(zip("abc", source.sample(["a", "b", "c", "std", "x1", "zz"], 3)))
            yield book, Mapped(book, source.choice((0, 1, 17)), names), source

    def test_words_and_papers(self):
        count = 0
        for book, other, source in self.mapped(120, 441):
            try:
                judge = Judge(book)
            except Contradicted as error:
                self.refused(lambda: Judge(other.book), Contradicted, error.number if len(book) == book.deeds else self.renumbered(book, error.number))
                self.assertEqual(len(Reach(other.book).ring()), len(Reach(book).ring()))
                continue
            again, looker = Judge(other.book), Looker(other.book)
            for saying in asked_sayings(book, source):
                one, two = judge.shown(saying), again.shown(other.saying(saying))
                self.assertEqual(one.word, two.word)
                if one:
                    self.assertEqual(len(one.chain), len(two.chain))
                if [number for number, row in book.rows()] == list(range(len(book))):
                    self.assertIs(looker(other.paper(one, None)), True)
                    count += 1
            for life in book.lives.listed:
                turns = turns_of(judge, *life)
                moved = turns_of(again, other.names[life[0]], life[1] + other.ticks if life[1] else 0)
                self.assertEqual((len(turns.stretches), turns.has_none), (len(moved.stretches), moved.has_none))
        self.assertGreater(count, 300)

    def renumbered(self, book, number):
        return [old for old, row in book.rows()].index(number)

    def test_rows_and_lists(self):
        count = 0
        for book, other, source in self.mapped(80, 443):
            if not keeping(book) or not book.tools or [number for number, row in book.rows()] != list(range(len(book))):
                continue
            judge, again, looker = Judge(book), Judge(other.book), Looker(other.book)
            for _ in range(5):
                row = some_row(source, book.tools, 6)
                if row.begins:
                    continue
                moved = (row << other.ticks).renamed(other.names)
                self.assertIs(follows(again, moved), follows(judge, row))
                self.assertIs(looker(other.paper(shown_row(judge, row), moved)), True)
                sayings = [source.choice(asked_sayings(book, source)) for _ in range(3)]
                paper, told = together(judge, sayings), together(again, [other.saying(saying) for saying in sayings])
                self.assertEqual((paper.word, getattr(paper, "one", None), getattr(paper, "other", None)), (told.word, getattr(told, "one", None), getattr(told, "other", None)))
                self.assertIs(looker(other.paper(paper, None)), True)
                count += 1
        self.assertGreater(count, 60)

    def test_entries(self):
        count = 0
        for book, other, source in self.mapped(80, 445):
            if not keeping(book) or not book.tools:
                continue
            entry = Entry(source.choice(book.tools), source.randint(0, 6), source.choice(book.tools))
            moved = Entry(*other.point(entry.tool, entry.moment), other.names[entry.by])
            wanted = [source.choice(asked_sayings(book, source)) for _ in range(4)]
            self.assertEqual(outcomes(other.book, moved), outcomes(book, entry))
            told = {word: tuple(other.saying(saying) for saying in sayings) for word, sayings in settles(book, entry, wanted).items()}
            self.assertEqual(settles(other.book, moved, [other.saying(saying) for saying in wanted]), told)
            count += 1
        self.assertGreater(count, 30)

    def test_changes(self):
        # A book that was moved has its rows as its first deeds: one that was only added to has the same words.
        source = random.Random(447)
        for book in books(60, 448):
            plain = Book(*[row for number, row in book.rows()])
            other = Mapped(plain, 3, {"a": "c", "b": "a", "c": "b"})
            for _ in range(3):
                saying = Saying(source.choice("abc"), source.randint(0, 6), True)
                self.assertEqual(changes(other.book, other.saying(saying)), changes(plain, saying))

    def test_at_the_end_of_time(self):
        book = Book(Found("a", TOP, True), r=("a", TOP))
        self.assertEqual(Judge(book)(Saying("a", 0, True)), "sure")
        self.assertIs(Looker(book)(Judge(book).shown(Saying("a", 0, True))), True)
