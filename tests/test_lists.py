"""Lists of sayings [13] [15], held against all histories of small books and a search of the tests' own."""

import itertools
import random

from kit import STRANGE, Case
from made import books, keeping, true_in
from search import contrary, distances, is_chain_of, key, next_sayings
from soundtill.books import Book
from soundtill.errors import NoTool, TooMany
from soundtill.histories import History
from soundtill.judge import Judge
from soundtill.lists import Apart, Listed, Together, grown, shut, together
from soundtill.rows import Agreed, Begun, Differed, Failed, Found, Passed, Served
from soundtill.sayings import Saying


class Asked:
    """A book that is not contradicted, its judge, some points, and what a search finds of them."""

    def __init__(self, book, points, judge):
        self.book, self.judge = book, judge
        self.points = sorted({*book.told, *points})
        self.kept = keeping(book, points)
        self.ahead = next_sayings(book, self.points)

    def sayings(self, source, most):
        if not self.points:
            return []
        return [Saying(*source.choice(self.points), source.random() < 0.5) for _ in range(source.randint(0, most))]

    def fits(self, sayings):
        return any(all(true_in(history, saying) for saying in sayings) for history in self.kept)

    def steps(self, one, other):
        return distances(self.ahead, key(one)).get(key(other))

    def clash(self, one, other):
        return key(one) == contrary(key(other)) or self.steps(one, ~other) is not None

    def least_clash(self, sayings):
        for one, saying in enumerate(sayings):
            for other in range(one, len(sayings)):
                if self.clash(saying, sayings[other]):
                    return one, other
        return None


def some(seed):
    source = random.Random(seed)
    for book in itertools.chain(books(90, seed), books(60, seed + 1, tools="ab", top=4, most=8)):
        points = [(source.choice(book.tools), source.randint(0, 9)) for _ in range(2)] if book.tools else []
        if keeping(book):
            yield Asked(book, points, Judge(book, *source.choice([(), points])))


class TogetherOrNot(Case):
    def test_against_all_histories(self):
        source, words = random.Random(71), []
        for asked in some(72):
            for _ in range(10):
                sayings = source.choice([list, tuple])(asked.sayings(source, 5))
                paper = together(asked.judge, sayings)
                words.append(paper.word)
                self.assertEqual(paper.sayings, tuple(sayings))
                self.assertIs(type(paper), Together if asked.fits(sayings) else Apart)
                self.check_together(asked, paper) if paper else self.check_apart(asked, paper)
                self.same(together(judge=asked.judge, sayings=sayings), paper)
        self.assertGreater(min(words.count("together"), words.count("apart")), 200)

    def check_together(self, asked, paper):
        self.assertEqual(paper.history.lives, asked.book.lives)
        for number, row in asked.book.rows():
            for one, other in row.pairs(asked.book.lives):
                self.assertFalse(true_in(paper.history, one) and true_in(paper.history, other))
        self.assertTrue(all(true_in(paper.history, saying) for saying in paper.sayings))

    def check_apart(self, asked, paper):
        self.assertEqual((paper.one, paper.other), asked.least_clash(paper.sayings))
        one, other = paper.sayings[paper.one], paper.sayings[paper.other]
        if key(one) == contrary(key(other)):
            self.assertIs(paper.chain, None)
        else:
            self.assertTrue(is_chain_of(asked.book, paper.chain, one, ~other))
            self.assertEqual(len(paper.chain), asked.steps(one, ~other))

    def test_a_list_is_together_exactly_if_each_two_are(self):
        source = random.Random(73)
        for asked in some(74):
            sayings = asked.sayings(source, 6)
            pairs = [together(asked.judge, pair) for pair in itertools.combinations_with_replacement(sayings, 2)]
            self.assertIs(bool(together(asked.judge, sayings)), all(pairs))

    def test_the_empty_list(self):
        for book in (Book(), Book(Found("a", 5, True))):
            for empty in ((), []):
                paper = together(Judge(book), empty)
                self.assertEqual((paper.word, paper.sayings, paper.history.lives), ("together", (), book.lives))

    def test_contraries_and_sayings_twice(self):
        judge = Judge(Book(Found("a", 5, False), Begun("b", 4)))
        a, b = Saying("a", 4, True), Saying("b", 9, True)
        self.assertEqual([(paper.one, paper.other, paper.chain) for paper in (
            together(judge, [a, b, ~a]), together(judge, (a, a, b, ~b, ~a)), together(judge, [~b, ~b, b, b]))],
            [(0, 2, None), (0, 4, None), (0, 2, None)])
        paper = together(judge, [a, b, Saying("a", 5, True), b])
        self.assertEqual((paper.one, paper.other, str(paper.chain)), (2, 2, "a 5 sound, a 5 unsound by 0"))
        paper = together(judge, [a, Saying("a", 6, True), Saying("a", 5, True)])
        self.assertEqual((paper.one, paper.other, len(paper.chain)), (1, 1, 3))
        self.assertTrue(together(judge, [a, a, b, a, b]))

    def test_points_that_are_not_told(self):
        judge = Judge(Book(Found("a", 5, True), Begun("b", 4)))
        for told, pair in ((["a 7 sound", "a 9 unsound"], None), (["a 9 sound", "a 9 sound", "a 7 unsound"], (0, 2)),
                           (["b 3 sound", "b 4 unsound"], None), (["b 3 sound", "b 5 unsound", "b 9 sound"], (1, 2)),
                           (["a 8 sound", "a 4 unsound"], (0, 1)), (["a 4 unsound", "a 8 sound"], (0, 0))):
            paper = together(judge, [Saying.read(text) for text in told])
            self.assertEqual(None if paper else (paper.one, paper.other), pair)

    def test_how_many(self):
        judge = Judge(Book(Passed("a", 8, "b")))
        a, z = Saying("a", 3, True), Saying("z", 3, True)
        for ask in (together, grown):
            self.refused(lambda: ask(judge, [a] * 201), TooMany, "sayings", 200)
            self.refused(lambda: ask(judge, (z,) * 201), TooMany, "sayings", 200)
            self.refused(lambda: ask(judge, (a, z, Saying("y", 3, True))), NoTool, "z")
            self.refused(lambda: ask(judge, [a, ~a, z] * 66), NoTool, "z")
        self.assertTrue(together(judge, [a] * 200))
        self.assertEqual(grown(judge, (a,) * 199 + (~a,)), list(range(199)))
        many = [Saying("ab"[k % 2], k, True) for k in range(200)]
        self.assertTrue(together(judge, many))
        paper = together(judge, [*many[:199], Saying("b", 0, False)])
        self.assertEqual((paper.one, paper.other, paper.chain), (1, 199, together(judge, [many[1], Saying("b", 0, False)]).chain))

    def test_what_is_passed_stays(self):
        judge = Judge(Book(Passed("a", 8, "b")))
        for sayings in ([Saying("a", 3, True)], [Saying("a", 3, True), Saying("a", 3, False)]):
            kept = list(sayings)
            paper = together(judge, sayings)
            self.assertEqual(sayings, kept)
            sayings.append(Saying("b", 3, True))
            self.assertEqual(paper.sayings, tuple(kept))


class Papers(Case):
    def setUp(self):
        self.judge = Judge(Book(Found("a", 5, True), Found("b", 5, False)))
        self.history = self.judge.history_with()
        self.chain = self.judge.reach.shortest(Saying("a", 4, False), Saying("a", 4, True))
        self.sayings = [Saying("a", 4, True), Saying("b", 4, True)]

    def test_fields(self):
        paper = Together(history=self.history, sayings=self.sayings)
        self.assertEqual((paper.word, paper.sayings, paper.history, bool(paper)), ("together", tuple(self.sayings), self.history, True))
        self.same(paper, Together(tuple(self.sayings), self.history))
        paper = Apart(chain=self.chain, other=1, one=0, sayings=self.sayings)
        self.assertEqual((paper.word, paper.sayings, paper.one, paper.other, bool(paper)), ("apart", tuple(self.sayings), 0, 1, False))
        self.assertIs(paper.chain, self.chain)
        self.same(paper, Apart(tuple(self.sayings), 0, 1, self.chain))
        self.assertEqual((Together.__bases__, Apart.__bases__), ((Listed,), (Listed,)))
        self.assertEqual(Apart((), 3, 1, None).sayings, ())

    def test_lists_are_kept_as_tuples(self):
        for kind, more in ((Together, [self.history]), (Apart, [0, 1, None])):
            sayings = list(self.sayings)
            paper = kind(sayings, *more)
            self.assertIs(type(paper.sayings), tuple)
            sayings.clear()
            self.assertEqual(paper.sayings, tuple(self.sayings))

    def test_equal(self):
        other = History.always(self.judge.book.lives)
        papers = [
            Together(self.sayings, self.history), Together(self.sayings[:1], self.history), Together(self.sayings, other), Together((), other),
            Apart(self.sayings, 0, 1, self.chain), Apart(self.sayings, 0, 1, None), Apart(self.sayings, 1, 0, self.chain),
            Apart(self.sayings, 1, 1, self.chain), Apart(self.sayings, 0, 0, self.chain), Apart(self.sayings[:1], 0, 1, self.chain),
        ]
        self.assertNotEqual(other, self.history)
        for one, two in itertools.combinations(papers, 2):
            self.unlike(one, two)
        for paper in papers:
            for value in [None, True, "together", tuple(self.sayings), self.history, self.chain, *STRANGE]:
                self.unlike(paper, value)


class Grown(Case):
    def test_against_all_histories(self):
        source, lengths = random.Random(75), []
        for asked in some(76):
            for _ in range(6):
                sayings = asked.sayings(source, 8)
                taken = []
                for at, saying in enumerate(sayings):
                    if asked.fits([*[sayings[k] for k in taken], saying]):
                        taken.append(at)
                found = grown(asked.judge, source.choice([list, tuple])(sayings))
                self.assertIs(type(found), list)
                self.assertEqual(found, taken)
                lengths.append(len(sayings) - len(taken))
        self.assertGreater(len([count for count in lengths if count > 1]), 100)

    def test_edges(self):
        judge = Judge(Book(Failed("a", 5, "b")))
        a, b = Saying("a", 5, True), Saying("b", 5, True)
        self.assertEqual([grown(judge, sayings) for sayings in ([], (), [a, ~a], [~a, a, ~a], [a, b, a, ~b], [a, a])],
                         [[], [], [0], [0, 2], [0, 2, 3], [0, 1]])
        self.assertEqual(grown(sayings=[Saying("a", 9, True), Saying("a", 8, False), Saying("a", 9, False)], judge=judge), [0])


class Shut(Case):
    def test_against_all_histories(self):
        source, many = random.Random(77), 0
        for asked in some(78):
            if not asked.book.tools:
                continue
            book = asked.book.twin()
            for name in ("z", "y", "x1", "x", "w"):
                book[name] = source.choice(asked.points)
            sound = {name: {at for at, history in enumerate(asked.kept) if history[book[name]]} for name in sorted(book.records)}
            expected = [(one, other) for one, other in itertools.combinations(sound, 2)
                        if sound[one] and sound[other] and not sound[one] & sound[other]]
            self.assertEqual(list(shut(Judge(book))), expected)
            many += len(expected)
        self.assertGreater(many, 20)

    def test_never_sound_and_at_one_point(self):
        book = Book(Found("b", 3, False), Differed("a", 5, "c", 5), r1=("a", 5), r2=("a", 5), r3=("c", 6), r4=("c", 4), r5=("b", 3), r6=("b", 3))
        self.assertEqual(list(shut(Judge(book))), [("r1", "r3"), ("r2", "r3")])
        self.assertEqual(list(shut(judge=Judge(Book()))), [])
        self.assertEqual(next(shut(Judge(book))), ("r1", "r3"))

    def test_one_that_is_sure(self):
        book = Book(Agreed("a", 3, "b", 3), Served("a", 3, "b", 3), Differed("c", 5, "a", 3), s=("a", 3), t=("c", 5), u=("b", 0))
        self.assertEqual(list(shut(Judge(book))), [])
