"""Books held against one another [18], by all histories of all tools of both."""

import itertools
import random

from kit import Case
from made import books, keeping, true_in
from soundtill.books import Book
from soundtill.errors import Contradicted, Unlike
from soundtill.held import alike, at_most, parting
from soundtill.histories import History
from soundtill.lives import Lives
from soundtill.rows import Agreed, Backed, Begun, Differed, Failed, Found, Passed, Served, SetBy, Trusted
from soundtill.sayings import Saying


def joint_lives(one, other):
    """The lives of all tools of both books, which have like ones."""
    return Lives({tool: (one if tool in one.tools else other).lives.beginnings(tool)[1:] for tool in {*one.tools, *other.tools}})


def all_turns(one, other):
    """All histories of all tools of both books that make choices of their own at the told points of both."""
    lives = joint_lives(one, other)
    told, choices = {*one.told, *other.told}, []
    for life in lives.listed:
        moments = sorted(moment for tool, moment in told if lives.life_of(tool, moment) == life)
        choices.append([None, life[1], *[moment + 1 for moment in moments[:-1]]])
    return [History(lives, dict(zip(lives.listed, turns))) for turns in itertools.product(*choices)]


def keeps_row(history, row):
    return not any(true_in(history, one) and true_in(history, other) for one, other in row.pairs(history.lives))


def keeps_all(history, book):
    return all(keeps_row(history, row) for number, row in book.rows())


def pairs(seed):
    """Yields pairs of small books of like lives that are not contradicted."""
    source = random.Random(seed)
    found = itertools.chain(books(160, seed, most=4), books(120, seed + 1, tools="ab", top=3, most=4))
    for one, more in zip(found, itertools.chain(books(160, seed + 2, most=4), books(120, seed + 3, tools="bc", top=3, most=3))):
        begun = [row for number, row in one.rows() if row.begins]
        rest = [row for number, row in more.rows() if not row.begins]
        kept = [row for number, row in one.rows() if not row.begins and source.random() < 0.5]
        other = Book(*source.choice([begun + rest, begun + kept, begun + kept + rest[:1], rest]), **more.records)
        both = one.tools + other.tools
        like = all(self_of(one, tool) == self_of(other, tool) for tool in both)
        if like and keeping(one) and keeping(other):
            yield one, other


def self_of(book, tool):
    return book.lives.beginnings(tool) if tool in book.tools else (0,)


class AtMost(Case):
    def test_against_all_histories(self):
        words = []
        for one, other in pairs(101):
            for first, second in ((one, other), (other, one)):
                histories = [history for history in all_turns(first, second) if keeps_all(history, first)]
                expected = all(keeps_all(history, second) for history in histories)
                self.assertIs(at_most(first, second), expected)
                words.append(expected)
                found = parting(first, second)
                if expected:
                    self.assertIs(found, None)
                    continue
                number, history = found
                self.assertIs(type(found), tuple)
                failing = [number for number, row in second.rows() if not all(keeps_row(history, row) for history in histories)]
                self.assertEqual(number, failing[0])
                self.assertEqual(history.lives, joint_lives(first, second))
                self.assertTrue(keeps_all(history, first))
                self.assertFalse(keeps_row(history, second.row_of(number)))
                self.same(parting(one=first, other=second)[1], history)
            self.assertIs(alike(one, other), at_most(one, other) and at_most(other, one))
        self.assertGreater(min(words.count(True), words.count(False)), 60)

    def test_equal_books_and_more_rows(self):
        for book in books(60, 105):
            if keeping(book):
                self.assertIs(alike(book, book.twin()), True)
                self.assertIs(parting(book, book), None)
                fewer = book.twin()
                for number, row in list(book.rows())[:2]:
                    if not row.begins:
                        fewer -= number
                self.assertIs(at_most(book, fewer), True)

    def test_tools_that_one_book_does_not_name(self):
        one, other = Book(Found("a", 5, True)), Book(Found("b", 5, True))
        self.assertEqual((at_most(one, other), at_most(other, one), at_most(one, Book()), at_most(Book(), one)), (False, False, True, False))
        number, history = parting(one, other)
        self.assertEqual((number, history.lives.tools, history["a", 5], history["b", 5]), (0, ("a", "b"), True, False))
        self.assertIs(at_most(one, Book(Backed("b", 9, "b", 4), Agreed("c", 3, "c", 3), r=("d", 4))), True)
        self.assertEqual(parting(one, Book(Backed("b", 9, "b", 4), Backed("b", 4, "b", 9)))[0], 1)
        self.assertEqual((alike(Book(), Book(r=("a", 5))), alike(Book(r=("b", 5)), Book(r=("a", 5)))), (True, True))

    def test_more_than_twelve_tools_in_both(self):
        one, other = Book(**{f"r{k}": (f"a{k}", 5) for k in range(12)}), Book(*[Trusted(f"b{k}") for k in range(12)])
        number, history = parting(one, other)
        self.assertEqual((number, len(history.lives.tools), alike(one, other), at_most(other, one)), (0, 24, False, True))

    def test_unlike_lives(self):
        for one, other, tool in (
            (Book(Begun("b", 5), Begun("a", 5)), Book(Begun("b", 5)), "a"), (Book(Begun("b", 5)), Book(Begun("b", 6), Begun("c", 4)), "b"),
            (Book(Begun("c", 5)), Book(r=("c", 3)), "c"), (Book(), Book(SetBy("c", 5, "a")), "c"), (Book(Begun("c", 5), Begun("d", 5)), Book(), "c"),
        ):
            for ask in (at_most, alike, parting):
                self.refused(lambda: ask(one, other), Unlike, tool)
                self.refused(lambda: ask(other, one), Unlike, tool)
        self.assertIs(alike(Book(Begun("a", 5)), Book(Begun("a", 5), Begun("a", 5))), True)

    def test_unlike_ahead_of_contradicted(self):
        barred = Book(Found("a", 5, True), Found("a", 4, False))
        worse = Book(Trusted("b"), Found("a", 5, True), Found("b", 4, False), Found("a", 4, False))
        for ask in (at_most, alike, parting):
            self.refused(lambda: ask(barred, worse + Book(Begun("c", 4))), Unlike, "c")
            self.refused(lambda: ask(barred, worse), Contradicted, 1)
            self.refused(lambda: ask(worse, barred), Contradicted, 2)
            self.refused(lambda: ask(Book(), barred), Contradicted, 1)
            self.refused(lambda: ask(barred, Book()), Contradicted, 1)

    def test_set_by_counts(self):
        one, other = Book(Begun("a", 5), r=("b", 5)), Book(SetBy("a", 5, "b"))
        self.assertEqual((at_most(one, other), at_most(other, one)), (False, True))
        number, history = parting(one, other)
        self.assertEqual((number, history["a", 5], history["b", 5]), (0, True, False))
        self.assertIs(alike(other, Book(Begun("a", 5), Backed("a", 5, "b", 5))), True)

    def test_numbers_with_rows_taken_back(self):
        other = Book(Found("a", 9, True), Found("a", 3, True), Found("a", 4, True))
        other -= 0
        self.assertEqual(parting(Book(Found("a", 3, True)), other)[0], 2)
        self.assertEqual(parting(Book(), other)[0], 1)

    def test_the_books_stay(self):
        one, other = Book(Found("a", 5, True), r=("a", 3)), Book(Found("b", 5, True), Begun("c", 4), s=("a", 4))
        other -= 1
        before = str(one), one.deeds, str(other), other.deeds
        parting(one, other)
        alike(one, other)
        self.assertEqual((str(one), one.deeds, str(other), other.deeds), before)


class SaidOtherwise(Case):
    def other_ways(self, row, lives):
        """Rows of other kinds with the same pairs."""
        if isinstance(row, Passed):
            return [Backed(row.by, row.moment, row.tool, row.moment)]
        if isinstance(row, Failed):
            return [Differed(row.by, row.moment, row.tool, row.moment)]
        if isinstance(row, Agreed):
            return [Backed(row.one, row.moment, row.other, row.later), Backed(row.other, row.later, row.one, row.moment)]
        if isinstance(row, Found):
            twice = row.tool, row.moment, row.tool, row.moment
            return [Served(*twice) if row.is_sound else Differed(*twice)]
        if isinstance(row, Trusted):
            return [Found(row.tool, lives.last_of((row.tool, beginning)), True) for beginning in lives.beginnings(row.tool)]
        return [row]

    def test_alike(self):
        changed = 0
        for book in books(120, 106):
            if not keeping(book):
                continue
            rows = [row for number, row in book.rows()]
            other = Book(*[way for row in rows for way in self.other_ways(row, book.lives)], **book.records)
            self.assertIs(alike(book, other), True)
            changed += other != book
        self.assertGreater(changed, 50)

    def test_swapped(self):
        one = Book(Differed("a", 5, "b", 3), Served("a", 7, "b", 1), Agreed("a", 2, "c", 4))
        other = Book(Agreed("c", 4, "a", 2), Served("b", 1, "a", 7), Differed("b", 3, "a", 5))
        self.assertEqual((alike(one, other), alike(one, Book(Backed("a", 5, "b", 3))), one == other), (True, False, False))
        self.assertIs(at_most(Book(Found("a", 5, False), r=("b", 4)), Book(Differed("a", 5, "b", 3))), True)
        number, history = parting(Book(Differed("a", 5, "b", 3)), Book(Found("a", 5, False)))
        self.assertEqual((number, history(Saying("a", 5, True))), (0, True))
