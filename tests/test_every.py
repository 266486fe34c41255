"""All plain histories [8] [9], held against a search of the test's own over small books."""

import itertools
import random

from kit import TOP, Case
from made import books, keeping, plain_histories, true_in
from soundtill.books import Book
from soundtill.errors import NoTool, TooMany
from soundtill.every import count, first_history, histories
from soundtill.histories import History
from soundtill.judge import Judge
from soundtill.rows import Agreed, Backed, Begun, Found, Passed, Trusted
from soundtill.sayings import Saying


def some(seed):
    """Yields small books that are not contradicted, and some further points."""
    source = random.Random(seed)
    for book in itertools.chain(books(100, seed), books(60, seed + 1, tools="ab", top=9, most=9)):
        if keeping(book):
            points = [(source.choice(book.tools), source.randint(0, 12)) for _ in range(source.randint(0, 2))] if book.tools else []
            yield book, points


def large():
    """A book of twelve tools with sixty records, which very many histories keep."""
    tools = [f"t{k}" for k in range(12)]
    rows = [Backed(tool, 40, other, 20) for tool, other in zip(tools, tools[1:])]
    return Book(*rows, **{f"r{k}": (tools[k % 12], k) for k in range(60)})


class Histories(Case):
    def test_all_of_them_in_order(self):
        many = []
        for book, points in some(41):
            for further in ((), points):
                found = list(histories(Judge(book, *further)))
                self.assertEqual(found, plain_histories(book, further))
                for one, other in itertools.pairwise(found):
                    self.assertTrue(one.is_ahead(other))
                for history in found:
                    self.assertIs(type(history), History)
                    self.assertEqual(history.lives, book.lives)
                many.append(len(found))
        self.assertGreater(len(set(many)), 15)

    def test_each_is_made_when_it_is_asked_for(self):
        judge = Judge(large())
        ahead = histories(judge)
        first, second = next(ahead), next(ahead)
        self.assertTrue(first.keeps(large()) and first.is_ahead(second))
        self.assertEqual(str(first).split(", ")[0], "t0 0 0")
        self.assertEqual(first, first_history(judge))
        self.assertEqual(next(histories(judge)), first)
        self.assertEqual([history.keeps(large()) for history in itertools.islice(ahead, 500)], [True] * 500)

    def test_no_rows_no_records_no_tools(self):
        self.assertEqual([str(history) for history in histories(Judge(Book()))], ["nothing"])
        self.assertEqual([str(history) for history in histories(Judge(Book(r=("a", 5))))], ["a 0 0", "a 0 none"])
        self.assertEqual([str(history) for history in histories(judge=Judge(Book(Begun("a", 5))))], ["a 0 none, a 5 none"])
        self.assertEqual([str(history) for history in histories(Judge(Book(Begun("a", 5), r=("a", 0)), ("a", 4), ("a", 9)))],
                         [f"a 0 {one}, a 5 {other}" for one in (0, 1, "none") for other in (5, "none")])

    def test_order_of_turns(self):
        judge = Judge(Book(Agreed("a", 3, "b", 9), r=("b", 2)), ("a", 10))
        self.assertEqual([str(history) for history in histories(judge)], [
            "a 0 0, b 0 0", "a 0 0, b 0 3", "a 0 4, b 0 none", "a 0 none, b 0 none"])

    def test_the_greatest_moment(self):
        judge = Judge(Book(Trusted("a"), r=("a", 3), s=("b", TOP), t=("b", TOP - 1)))
        self.assertEqual([str(history) for history in histories(judge)], ["a 0 none, b 0 0", f"a 0 none, b 0 {TOP}", "a 0 none, b 0 none"])

    def test_plain_forms_and_middles_are_among_them(self):
        source = random.Random(43)
        for book, points in some(44):
            found = list(histories(Judge(book)))
            kept = keeping(book, points)
            for history in kept:
                self.assertIn(history.plain(book), found)
            for history in found:
                self.assertEqual(history.plain(book), history)
            for _ in range(10):
                middle = History.middle(*source.choices(kept, k=3))
                self.assertIn(middle.plain(book), found)


class Count(Case):
    def test_how_many(self):
        for book, points in some(45):
            judge = Judge(book, *points)
            many = len(plain_histories(book, points))
            if many <= 1000:
                self.assertEqual(count(judge), many)
                self.assertEqual(count(judge, most=many), many)
            if 1 < many <= 10000:
                self.assertEqual(count(judge, many), many)
                self.refused(lambda: count(judge, many - 1), TooMany, "histories", many - 1)

    def test_very_many(self):
        judge = Judge(large())
        self.refused(lambda: count(judge), TooMany, "histories", 1000)
        self.refused(lambda: count(judge, 10000), TooMany, "histories", 10000)
        self.refused(lambda: count(judge=judge, most=1), TooMany, "histories", 1)

    def test_one(self):
        self.assertEqual((count(Judge(Book()), 1), count(Judge(Book(Trusted("a"))), 1)), (1, 1))

    def test_just_enough_of_many(self):
        judge = Judge(Book(**{f"{tool}{k}": (tool, k) for tool in "abc" for k in range(9)}))
        self.assertEqual((count(judge), count(judge, 1000), count(judge, 1001)), (1000, 1000, 1000))
        self.refused(lambda: count(judge, 999), TooMany, "histories", 999)


class FirstHistory(Case):
    def test_against_all_histories(self):
        source, found = random.Random(46), []
        for book, points in some(47):
            judge = Judge(book, *points)
            tools = book.tools
            told = [*judge.told, *[(source.choice(tools), source.randint(0, 12)) for _ in range(2)]] if tools else []
            for _ in range(8):
                sayings = [Saying(*source.choice(told), source.random() < 0.5) for _ in range(source.randint(0, 3))] if told else []
                plain = plain_histories(book, [*judge.told, *[saying.point for saying in sayings]])
                fitting = [history for history in plain if all(true_in(history, saying) for saying in sayings)]
                history = first_history(judge, *sayings)
                self.assertEqual(history, fitting[0] if fitting else None)
                found.append(bool(fitting))
        self.assertGreater(min(found.count(True), found.count(False)), 100)

    def test_points_that_are_not_told(self):
        judge = Judge(Book(Found("a", 5, True), Begun("b", 7)))
        a, b = Saying("a", 9, True), Saying("b", 6, False)
        self.assertEqual(str(first_history(judge)), "a 0 none, b 0 none, b 7 none")
        self.assertEqual(str(first_history(judge, ~a)), "a 0 6, b 0 none, b 7 none")
        self.assertEqual(str(first_history(judge, a, b)), "a 0 none, b 0 0, b 7 none")
        self.assertEqual(str(first_history(judge, a, Saying("a", 11, False))), "a 0 10, b 0 none, b 7 none")
        for sayings in ([a, ~a], [a, Saying("a", 8, False)], [Saying("a", 5, False)], [Saying("a", 4, False)], [b, Saying("b", 6, True)]):
            self.assertIs(first_history(judge, *sayings), None)

    def test_no_tool(self):
        judge = Judge(Book(Passed("a", 8, "b")))
        a, y, z = Saying("a", 3, True), Saying("y", 3, True), Saying("z", 3, True)
        self.refused(lambda: first_history(judge, a, ~a, z, y), NoTool, "z")
        self.refused(lambda: first_history(judge, y, z), NoTool, "y")
