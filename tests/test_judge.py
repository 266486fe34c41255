"""Judges and verdicts [13] [14], held against searches of the test's own over all histories of small books."""

import itertools
import random

from kit import STRANGE, TOP, Case
from made import books, keeping, some_row, true_in
from search import is_chain_of, shortest_steps
from soundtill.books import Book
from soundtill.chains import Reach
from soundtill.errors import BadPoint, Contradicted, NoRecord, NoTool
from soundtill.histories import History
from soundtill.judge import Judge, Never, Open, Settled, Sure, Verdict
from soundtill.rows import Agreed, Backed, Begun, Differed, Failed, Found, Passed, Served, SetBy, Trusted
from soundtill.sayings import Saying


def word_in(kept, saying):
    """The word of a saying by the histories that keep a book, at least one."""
    truths = {true_in(history, saying) for history in kept}
    return {(True,): "sure", (False,): "never", (False, True): "open"}[tuple(sorted(truths))]


def least_number(book):
    """The least number up to which the standing rows are contradicted, None if the book is not."""
    rows = list(book.rows())
    if keeping(book):
        return None
    return next(number for at, (number, row) in enumerate(rows) if not keeping(Book(*[row for _, row in rows[:at + 1]])))


def judged(count, seed, **bounds):
    """Yields small books that are not contradicted, each with some further points and the histories that keep it."""
    source = random.Random(seed)
    for book in books(count, seed, **bounds):
        points = [(source.choice(book.tools), source.randint(0, 8)) for _ in range(source.randint(0, 3))] if book.tools else []
        kept = keeping(book, points)
        if kept:
            yield book, points, kept


def sayings_of(points):
    return [Saying(*point, truth) for point in points for truth in (False, True)]


class Made(Case):
    def setUp(self):
        self.barred = Book(Trusted("std"), Passed("a", 8, "std"), Failed("a", 3, "std"))

    def test_bad_point_ahead_of_no_tool_ahead_of_contradicted(self):
        for value in [None, True, 0, "a3", ("a", -1), ("A", 3), ("a", True), ["a", 3], ("a", 3, True),
                      *[value for value in STRANGE if value != ("a", 0)]]:
            self.refused(lambda: Judge(self.barred, value), BadPoint, value)
            self.refused(lambda: Judge(self.barred, ("a", 3), ("z", 3), value, None), BadPoint, value)
        self.refused(lambda: Judge(self.barred, ("a", 3), ("z", 3), ("y", 3)), NoTool, "z")
        self.refused(lambda: Judge(self.barred, ("a", 3)), Contradicted, 2)
        self.refused(lambda: Judge(book=self.barred), Contradicted, 2)

    def test_rows_taken_back_between(self):
        book = Book(Found("a", 9, True), Found("a", 3, False), Found("a", 1, True), Found("a", 2, False), Found("a", 3, True))
        self.refused(lambda: Judge(book), Contradicted, 1)
        book -= 1
        self.refused(lambda: Judge(book), Contradicted, 3)
        book -= 0
        self.refused(lambda: Judge(book), Contradicted, 4)
        book -= 3
        Judge(book)
        book += Found("a", 0, False)
        self.refused(lambda: Judge(book), Contradicted, 5)

    def test_a_later_beginning_reconciles(self):
        book = Book(Found("a", 3, False), Found("a", 9, True), Begun("a", 5))
        self.assertEqual(Judge(book)(Saying("a", 9, True)), "sure")
        # The first two rows by themselves have no beginning, so they are contradicted, once the whole is.
        book += Found("a", 6, False)
        self.refused(lambda: Judge(book), Contradicted, 1)
        book -= 2
        book -= 3
        self.refused(lambda: Judge(book), Contradicted, 1)
        book.put(SetBy("a", 4, "b"))
        self.assertEqual(Judge(book)(Saying("b", 4, True)), "sure")

    def test_a_beginning_can_contradict(self):
        # Trusted speaks of the last moment of each life, so a later beginning lets it say more.
        book = Book(Trusted("a"), Found("a", 9, True), SetBy("a", 5, "b"), Found("b", 4, False))
        self.refused(lambda: Judge(book), Contradicted, 3)
        fewer = book.twin()
        fewer -= 2
        self.assertEqual(Judge(fewer).told, (("a", 9), ("a", TOP), ("b", 4)))

    def test_the_number_against_a_search(self):
        found = []
        for book in itertools.chain(books(150, 21), books(150, 22, tools="ab", top=3, most=9)):
            number = least_number(book)
            if number is None:
                Judge(book)
            else:
                self.refused(lambda: Judge(book), Contradicted, number)
                found.append(number != max(number for number, row in book.rows()))
        self.assertGreater(min(found.count(True), found.count(False)), 10)

    def test_told_reach_and_book(self):
        book = Book(Agreed("a", 3, "b", 9), Passed("a", 8, "b"), Begun("c", 3), r=("c", 4))
        book -= 1
        book.set_today(12)
        judge = Judge(book, ("b", 7), ("c", 0), ("b", 7))
        self.assertEqual(judge.told, (("a", 3), ("b", 7), ("b", 9), ("c", 0), ("c", 4)))
        self.assertIs(type(judge.reach), Reach)
        self.assertEqual(judge.reach.told, judge.told)
        twin = judge.book
        self.same(twin, book)
        self.assertEqual(([number for number, row in twin.rows()], twin.deeds, twin.today), ([0, 2], 5, 12))
        self.assertEqual(twin.known(3), book.known(3))
        self.assertIsNot(judge.book, judge.book)

    def test_the_book_is_copied(self):
        book = Book(Passed("a", 8, "b"), Found("b", 9, True), r=("a", 5))
        judge = Judge(book)
        twin = judge.book
        for changing in (book, twin):
            changing -= 1
            changing += Begun("a", 3)
            changing += Found("a", 4, False)
            changing.drop("r")
        self.assertEqual((judge(Saying("a", 5, True)), judge.record("r"), list(judge.each_record())), ("sure", "sound", [("r", "sound")]))
        self.assertEqual((len(judge.book), judge.book.deeds, judge.told), (2, 3, (("a", 5), ("a", 8), ("b", 8), ("b", 9))))
        self.assertEqual([str(saying) for saying in judge.settled], ["a 5 sound", "a 8 sound", "b 8 sound", "b 9 sound"])
        self.assertIs(judge.history_with(Saying("a", 5, False)), None)
        self.assertEqual(judge.history_with().lives.listed, (("a", 0), ("b", 0)))

    def test_the_book_stays(self):
        book = Book(Passed("a", 8, "b"), Found("b", 9, True), r=("a", 5))
        before = str(book), book.deeds
        judge = Judge(book)
        judge.shown(Saying("a", 5, True))
        judge.history_with(Saying("b", 11, False))
        self.assertEqual((str(book), book.deeds), before)

    def test_empty(self):
        judge = Judge(Book())
        self.assertEqual((judge.told, judge.settled, list(judge.each_record()), judge.book), ((), (), [], Book()))
        self.same(judge.history_with(), History(Book().lives, {}))

    def test_records(self):
        book = Book(Found("a", 5, True), Found("b", 5, False), z=("a", 4), y=("b", 6), x=("a", 6), w=("b", 3))
        judge = Judge(book)
        self.assertEqual(list(judge.each_record()), [("w", "open"), ("x", "open"), ("y", "unsound"), ("z", "sound")])
        self.assertEqual([judge.record(name) for name in "wxyz"], ["open", "open", "unsound", "sound"])
        self.assertEqual(judge.record(name="z"), "sound")
        self.assertEqual(next(judge.each_record()), ("w", "open"))
        for name in ["a", "r", None, True, 0, *STRANGE]:
            self.refused(lambda: judge.record(name), NoRecord, name)

    def test_no_tool(self):
        judge = Judge(Book(Passed("a", 8, "b")))
        a, y, z = Saying("a", 3, True), Saying("y", 3, True), Saying("z", 3, True)
        for ask in (judge, judge.shown, judge.history_with):
            self.refused(lambda: ask(z), NoTool, "z")
        self.refused(lambda: judge.history_with(a, ~a, z, y), NoTool, "z")
        judge(saying=a)
        judge.shown(saying=a)


class Searched(Case):
    def some(self):
        yield from judged(120, 23)
        yield from judged(120, 24, tools="ab", top=3, most=9)
        yield from judged(25, 25, tools="abc", top=9, most=10)

    def test_all_kinds_of_rows_and_lives_are_among_the_books(self):
        rows = [row for book, points, kept in self.some() for number, row in book.rows()]
        self.assertEqual({type(row) for row in rows}, {Agreed, Backed, Begun, Differed, Failed, Found, Passed, Served, SetBy, Trusted})
        self.assertGreater(max(len(book.lives.beginnings(tool)) for book, _, _ in self.some() for tool in book.tools), 2)

    def test_words(self):
        words = []
        for book, points, kept in self.some():
            judges = Judge(book), Judge(book, *points)
            for saying in sayings_of({*book.told, *points}):
                expected = word_in(kept, saying)
                words.append(expected)
                for judge in judges:
                    self.assertEqual(judge(saying), expected)
            for judge in judges:
                sure = [saying for saying in sayings_of(judge.told) if word_in(kept, saying) == "sure"]
                self.assertIs(type(judge.settled), tuple)
                self.assertEqual(list(judge.settled), sure)
                named = {"sure": "sound", "never": "unsound", "open": "open"}
                records = [(name, named[word_in(kept, Saying(*book[name], True))]) for name in sorted(book.records)]
                self.assertEqual(list(judge.each_record()), records)
        self.assertGreater(min(words.count(word) for word in ("sure", "never", "open")), 100)

    def test_points_that_are_not_told(self):
        book = Book(Found("a", 5, True), Failed("b", 5, "a"), Begun("b", 8), Trusted("c"))
        judge = Judge(book)
        for word, asked in (("sure", "a 4 sound"), ("open", "a 6 sound"), ("never", "a 0 unsound"), ("never", "b 7 sound"),
                            ("sure", "b 6 unsound"), ("open", "b 4 sound"), ("open", "b 8 sound"), ("sure", "c 12 sound"),
                            ("sure", f"c {TOP} sound"), ("open", f"a {TOP} unsound"), ("open", f"b {TOP} sound")):
            self.assertEqual(judge(Saying.read(asked)), word, asked)

    def check_history(self, book, history, *sayings):
        self.assertIs(type(history), History)
        self.assertEqual(history.lives, book.lives)
        for number, row in book.rows():
            for one, other in row.pairs(book.lives):
                self.assertFalse(true_in(history, one) and true_in(history, other))
        for saying in sayings:
            self.assertTrue(true_in(history, saying))

    def test_shown(self):
        classes = {"sure": Sure, "never": Never, "open": Open}
        for book, points, kept in self.some():
            for judge in (Judge(book), Judge(book, *points)):
                for saying in sayings_of({*book.told, *points}):
                    shown = judge.shown(saying)
                    self.assertIs(type(shown), classes[word_in(kept, saying)])
                    self.assertEqual(shown.saying, saying)
                    if shown.word == "open":
                        self.check_history(book, shown.yes, saying)
                        self.check_history(book, shown.no, ~saying)
                        continue
                    ends = (~saying, saying) if shown.word == "sure" else (saying, ~saying)
                    self.assertTrue(is_chain_of(book, shown.chain, *ends))
                    self.assertEqual(len(shown.chain), shortest_steps(book, *ends))

    def test_the_same_paper_for_equal_books(self):
        for book, points, kept in judged(60, 26):
            other = book.twin()
            other.set_today(TOP)
            one, two = Judge(book, *points), Judge(other, *points)
            for saying in sayings_of(one.told):
                self.same(one.shown(saying), two.shown(saying))
                self.same(one.shown(saying), one.shown(saying))

    def test_the_same_paper_for_books_that_were_filled_otherwise(self):
        rows = [Passed("a", 8, "b"), Found("c", 2, True), Passed("b", 9, "c"), Agreed("c", 9, "a", 8), Trusted("c")]
        one, other = Book(*rows, r=("a", 3), s=("b", 12)), Book(s=("b", 12))
        one -= 1
        for row in rows[:2]:
            other += row
        other -= 1
        other["r"] = ("b", 1)
        for row in rows[2:]:
            other += row
        other["r"] = ("a", 3)
        points = [("b", 10), ("a", 4)]
        self.assertEqual((one, [number for number, row in one.rows()]), (other, [number for number, row in other.rows()]))
        judges = Judge(one, *points), Judge(other, *points)
        for saying in sayings_of({*judges[0].told, ("c", 20), ("b", 30)}):
            self.same(judges[0].shown(saying), judges[1].shown(saying))

    def test_history_with(self):
        source, found = random.Random(27), []
        for book, points, kept in self.some():
            sayings = sayings_of({*book.told, *points})
            judges = Judge(book), Judge(book, *points)
            for _ in range(12 if sayings else 1):
                asked = source.choices(sayings, k=source.randint(0, 4)) if sayings else []
                can = any(all(true_in(history, saying) for saying in asked) for history in kept)
                for judge in judges:
                    history = judge.history_with(*asked)
                    found.append(can)
                    if can:
                        self.check_history(book, history, *asked)
                        self.same(judge.history_with(*asked), history)
                    else:
                        self.assertIs(history, None)
        self.assertGreater(min(found.count(True), found.count(False)), 300)

    def test_history_with_sayings_between_told_points(self):
        judge = Judge(Book(Found("a", 5, True), Begun("a", 20)))
        a = Saying("a", 9, True)
        for sayings, can in (([a, a], True), ([a, ~a], False), ([a, Saying("a", 8, False)], False), ([a, Saying("a", 10, False)], True),
                             ([a, Saying("a", 20, False)], True), ([~a, Saying("a", 20, True), Saying("a", 30, False)], True),
                             ([Saying("a", 5, False)], False), ([Saying("a", 4, False)], False), ([Saying("a", 6, False)], True),
                             ([Saying("a", 30, True), Saying("a", 20, False)], False)):
            history = judge.history_with(*sayings)
            self.assertIs(history is not None, can)
            if can:
                self.check_history(judge.book, history, *sayings)


class Verdicts(Case):
    def setUp(self):
        book = Book(Found("a", 5, True), Found("b", 5, False))
        self.judge = Judge(book)
        self.saying = Saying("a", 4, True)
        self.chain = self.judge.reach.shortest(~self.saying, self.saying)
        self.yes, self.no = self.judge.history_with(Saying("a", 9, True)), self.judge.history_with(Saying("a", 9, False))
        self.other = Saying("a", 9, True)

    def test_words_and_bases(self):
        sure, never = Sure(self.saying, self.chain), Never(~self.saying, self.chain)
        opened = Open(self.other, self.yes, self.no)
        self.assertEqual([verdict.word for verdict in (sure, never, opened)], ["sure", "never", "open"])
        self.assertEqual([bool(verdict) for verdict in (sure, never, opened)], [True, True, False])
        self.assertEqual((Settled.__bases__, Open.__bases__), ((Verdict,), (Verdict,)))
        self.assertEqual((Sure.__bases__, Never.__bases__), ((Settled,), (Settled,)))

    def test_arguments(self):
        for kind in (Sure, Never):
            verdict = kind(chain=self.chain, saying=self.saying)
            self.assertIs(verdict.saying, self.saying)
            self.assertIs(verdict.chain, self.chain)
            self.same(verdict, kind(self.saying, self.chain))
        verdict = Open(no=self.no, saying=self.other, yes=self.yes)
        self.assertEqual((verdict.saying, verdict.yes, verdict.no), (self.other, self.yes, self.no))
        self.same(verdict, Open(self.other, self.yes, self.no))

    def test_papers_are_not_looked_at(self):
        self.assertEqual(Sure(self.other, self.chain).word, "sure")
        self.assertEqual(Open(self.saying, self.no, self.no).word, "open")

    def test_contrary(self):
        sure, never = Sure(self.saying, self.chain), Never(~self.saying, self.chain)
        self.same(~sure, never)
        self.same(~never, sure)
        opened = Open(self.other, self.yes, self.no)
        self.same(~opened, Open(~self.other, self.no, self.yes))
        self.same(~~opened, opened)

    def test_shown_of_the_contrary(self):
        for point in (("a", 4), ("a", 6), ("b", 5), ("b", 3)):
            saying = Saying(*point, True)
            one, other = self.judge.shown(saying), self.judge.shown(~saying)
            self.assertEqual((type(~one), (~one).saying, (~one).word), (type(other), other.saying, other.word))

    def test_equal(self):
        longer = self.judge.reach.shortest(Saying("b", 7, True), Saying("b", 7, False))
        verdicts = [
            Sure(self.saying, self.chain), Never(self.saying, self.chain), Sure(self.other, self.chain), Never(self.other, self.chain),
            Open(self.saying, self.yes, self.no), Open(self.saying, self.no, self.yes), Open(self.other, self.yes, self.no),
            Open(self.saying, self.yes, self.yes), Sure(~self.saying, self.chain), Never(~self.saying, self.chain),
            Sure(self.saying, longer), Never(self.saying, longer),
        ]
        for one, other in itertools.combinations(verdicts, 2):
            self.unlike(one, other)
        for verdict in verdicts:
            for value in [None, True, 0, "sure", self.saying, self.chain, self.yes, *STRANGE]:
                self.unlike(verdict, value)


class Large(Case):
    def test_a_full_book(self):
        source = random.Random(28)
        tools = [f"t{k}" for k in range(12)]
        book = Book()
        while len(book) < 80:
            row = some_row(source, tools, 60)
            book += row
            try:
                Judge(book)
            except Contradicted as error:
                self.assertEqual(error.number, max(number for number, row in book.rows()))
                book -= error.number
        for k in range(60):
            book[f"r{k}"] = (tools[k % 12], source.randint(0, 70))
        judge = Judge(book, *[(tools[k % 12], 3 * k) for k in range(60)])
        chosen = []
        for point in judge.told:
            saying = Saying(*point, True)
            word = judge(saying)
            history = judge.history_with(*chosen, saying)
            if word == "never":
                self.assertIs(history, None)
            elif history is not None:
                chosen.append(saying)
        history = judge.history_with(*chosen)
        self.assertTrue(history.keeps(book) and all(history(saying) for saying in chosen))
        self.assertEqual(len(list(judge.each_record())), 60)
