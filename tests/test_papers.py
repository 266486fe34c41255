"""Papers that a looker looks at: what judges, lists, rows and lots tell, and the same with one part otherwise."""

import itertools
import random

from kit import STRANGE, Case
from made import books, kept_book, keeping, some_book, some_row
from papers import keeps, right, variants
from soundtill.books import Book
from soundtill.chains import Chain, Step
from soundtill.follows import Broken, Follows, shown_row
from soundtill.histories import History
from soundtill.judge import Judge, Never, Open, Settled, Sure, Verdict
from soundtill.lists import Apart, Listed, Together, together
from soundtill.lookers import Looker
from soundtill.lots import Lots
from soundtill.rows import Agreed, Begun, Differed, Failed, Found, Passed, Served, SetBy, Trusted
from soundtill.sayings import Saying


def said(text):
    return Saying.read(text)


def told_papers(judge, source):
    """Papers of all kinds that are told of a judge's book."""
    book = judge.book
    points = [*judge.told, *[(source.choice(book.tools), source.randint(0, 9)) for _ in range(2)]] if book.tools else []
    sayings = [Saying(*point, truth) for point in points for truth in (False, True)]
    papers = [judge.shown(saying) for saying in source.sample(sayings, min(6, len(sayings)))]
    for _ in range(6):
        papers.append(together(judge, [source.choice(sayings) for _ in range(source.randint(0, 4))] if sayings else []))
    for _ in range(8 if book.tools else 0):
        row = some_row(source, book.tools, 6)
        if not row.begins:
            papers.append(shown_row(judge, row))
    names = list(book.records)
    lots = Lots(judge, x=names, y=names[:1], z=[])
    return papers + [paper for name in lots.names for paper in lots.shown(name)]


def parts(papers):
    """The sayings, chains, histories and rows that stand in papers."""
    sayings, chains, histories, rows = [], [], [], []
    for paper in papers:
        for value in vars(paper).values():
            for part in value if isinstance(value, tuple) else (value,):
                if isinstance(part, Saying):
                    sayings.append(part)
                elif isinstance(part, Chain):
                    chains.append(part)
                elif isinstance(part, History):
                    histories.append(part)
                elif part is not None and hasattr(part, "pairs"):
                    rows.append(part)
    return sayings, chains, histories, rows


def some_parts(papers, source):
    return [source.sample(found, min(3, len(found))) for found in parts(papers)]


FOREIGN = [Saying("other", 3, True), Saying("other", 3, False)]
ROWS = [Begun("a", 3), SetBy("a", 3, "b"), Trusted("other"), Passed("a", 3, "other"), Found("other", 0, True), Agreed("a", 2, "a", 2), Passed("b", 2, "b")]


class Told(Case):
    def test_each_told_paper_is_right(self):
        source, words = random.Random(321), []
        for book in itertools.chain(books(80, 322), books(50, 323, tools="ab", top=4, most=8)):
            if not keeping(book):
                continue
            looker = Looker(book)
            for paper in told_papers(Judge(book), source):
                self.assertIs(looker(paper), True)
                self.assertIs(looker(thing=paper), True)
                self.assertTrue(right(book, paper))
                words.append(paper.word)
                if isinstance(paper, Verdict):
                    self.assertIs(looker(~paper), True)
        for word in ("sure", "never", "open", "together", "apart", "follows", "broken"):
            self.assertGreater(words.count(word), 40, word)

    def test_one_part_otherwise(self):
        source, seen = random.Random(324), {}
        for book in itertools.chain(books(30, 325), books(25, 326, tools="ab", top=4, most=8)):
            if not keeping(book):
                continue
            looker, papers = Looker(book), told_papers(Judge(book), source)
            for paper in papers:
                sayings, chains, histories, rows = some_parts(papers, source)
                rows = [row for row in [*rows, *ROWS] if row.begins or all(tool in (*book.tools, "other") for tool in row.tools)]
                for other in variants(paper, sayings + FOREIGN, chains, histories, rows):
                    is_right = right(book, other)
                    self.assertIs(looker(other), is_right)
                    seen.setdefault((type(other).__name__, is_right), []).append(1)
        for name in ("Sure", "Never", "Open", "Together", "Apart", "Follows", "Broken"):
            self.assertGreater(min(len(seen[name, True]), len(seen[name, False])), 40, name)

    def test_other_books(self):
        source, seen = random.Random(327), []
        for _ in range(50):
            book = kept_book(source)
            papers = told_papers(Judge(book), source)
            others = [some_book(source), book + Book(some_row(source, "abcd", 6)), Book(), book << 1]
            for number in [number for number, row in book.rows()]:
                less = book.twin()
                less -= number
                others.append(less)
            for other in others:
                looker = Looker(other)
                for paper in papers:
                    is_right = right(other, paper)
                    self.assertIs(looker(paper), is_right)
                    seen.append(is_right)
        self.assertGreater(min(seen.count(True), seen.count(False)), 1000)

    def test_how_many_steps(self):
        source, seen = random.Random(328), []
        for _ in range(60):
            book = kept_book(source)
            for paper in told_papers(Judge(book), source):
                lengths = [len(chain) for chain in parts([paper])[1]]
                for most in {1, 2, *lengths, *[length - 1 for length in lengths if length > 1]}:
                    self.assertIs(Looker(book, most)(paper), not lengths or max(lengths) <= most)
                    self.assertIs(right(book, paper, most), not lengths or max(lengths) <= most)
                    seen.append((bool(lengths), not lengths or max(lengths) <= most))
        self.assertGreater(min(seen.count((True, True)), seen.count((True, False)), seen.count((False, True))), 50)

    def test_contradicted_books(self):
        looker = Looker(Book(Found("a", 5, True), Found("a", 5, False)))
        there = Chain(Step(said("a 5 unsound"), said("a 5 sound"), 0))
        back = Chain(Step(said("a 5 sound"), said("a 5 unsound"), 1))
        for paper in (Sure(said("a 5 sound"), there), Never(said("a 5 sound"), back), Sure(said("a 5 unsound"), back), Never(said("a 5 unsound"), there),
                      Apart([said("a 5 sound")], 0, 0, back), Apart([said("a 5 unsound")], 0, 0, there),
                      Follows(Found("a", 5, True), (there,)), Follows(Found("a", 5, False), (back,))):
            self.assertIs(looker(paper), True)
        always = History.always(Book(Trusted("a")).lives)
        for paper in (Open(said("a 5 sound"), always, always), Together((), always), Broken(Differed("a", 3, "a", 3), always)):
            self.assertIs(looker(paper), False)

    def test_the_book_is_copied(self):
        book = Book(Trusted("s"), Failed("a", 10, "s"), Served("a", 3, "b", 4))
        papers = told_papers(Judge(book), random.Random(329))
        looker = Looker(book)
        book -= 1
        book -= 0
        book += Begun("a", 4)
        self.assertEqual([looker(paper) for paper in papers], [True] * len(papers))
        self.assertIn(False, [Looker(book)(paper) for paper in papers])


class Verdicts(Case):
    BOOK = Book(Found("a", 5, False), r=("b", 3))
    CHAIN = Chain(Step(said("a 7 sound"), said("a 5 sound"), "time"), Step(said("a 5 sound"), said("a 5 unsound"), 0),
                  Step(said("a 5 unsound"), said("a 7 unsound"), "time"))

    def test_settled(self):
        looker = Looker(self.BOOK)
        for saying, sure, never in (("a 7 sound", False, True), ("a 7 unsound", True, False), ("a 5 sound", False, False), ("b 3 sound", False, False),
                                    ("c 7 sound", False, False), ("a 8 unsound", False, False)):
            self.assertIs(looker(Sure(said(saying), self.CHAIN)), sure)
            self.assertIs(looker(Never(said(saying), self.CHAIN)), never)
            self.assertIs(looker(Sure(said(saying), ~self.CHAIN)), sure)
            for other in (None, Chain(*self.CHAIN.steps[:2]), Chain(*self.CHAIN.steps[1:])):
                self.assertIs(looker(Sure(said(saying), other)), False)
                self.assertIs(looker(Never(said(saying), other)), False)

    def test_open(self):
        looker, lives = Looker(self.BOOK), self.BOOK.lives
        yes, no = History(lives, {("a", 0): 3, ("b", 0): None}), History(lives, {("a", 0): 3, ("b", 0): 3})
        wrong = History(lives, {("a", 0): 6, ("b", 0): None})
        more = History.always(Book(self.BOOK.row_of(0), Trusted("b"), Trusted("c")).lives)
        saying = said("b 3 sound")
        self.assertEqual([looker(Open(saying, yes, no)), looker(Open(~saying, no, yes))], [True, True])
        for one, other in ((no, yes), (yes, yes), (no, no), (wrong, no), (yes, None), (None, no), (None, None), (more, no), (yes, more)):
            self.assertIs(looker(Open(saying, one, other)), False)
        self.assertIs(looker(Open(said("c 3 sound"), more, more)), False)
        self.assertIs(looker(Open(said("a 7 sound"), yes, no)), False)

    def test_base_classes_and_any_values(self):
        looker = Looker(self.BOOK)
        for value in (Verdict(), Settled(), Listed(), *STRANGE):
            self.assertIs(looker(value), False)
            self.assertIs(looker(Sure(said("a 7 unsound"), value)), False)
            self.assertIs(looker(Open(said("b 3 sound"), value, value)), False)
            self.assertIs(looker(Together([said("b 3 sound")], value)), False)
            self.assertIs(looker(Apart([said("b 3 sound"), said("b 3 unsound")], 0, 1, value)), False)
            self.assertIs(looker(Follows(Found("a", 7, False), [value])), False)
            self.assertIs(looker(Broken(Found("a", 3, False), value)), False)

    def test_any_values_in_the_place_of_sayings_and_rows(self):
        looker, always = Looker(Verdicts.BOOK), History(self.BOOK.lives, {("a", 0): 0, ("b", 0): None})
        for value in (None, True, 3, "a 7 sound", Found("a", 7, False), self.CHAIN, self.BOOK, *[value for value in STRANGE if not isinstance(value, (Saying, Passed, Agreed, Trusted))]):
            for paper in (Sure(value, self.CHAIN), Never(value, self.CHAIN), Open(value, always, always), Together([value], always), Together([said("b 3 sound"), value], always),
                          Apart([value], 0, 0, self.CHAIN), Apart([value, value], 0, 1, None), Apart([said("a 7 sound"), value], 0, 0, self.CHAIN)):
                self.assertIs(looker(paper), False)
            if value != Found("a", 7, False):
                self.assertIs(looker(Follows(value, [self.CHAIN])), False)
                self.assertIs(looker(Broken(value, always)), False)


class Lists(Case):
    def test_apart(self):
        looker, one, other = Looker(Verdicts.BOOK), said("a 7 sound"), said("b 3 sound")
        chain = Verdicts.CHAIN
        for sayings, first, second, shown, is_right in (
            ([one], 0, 0, chain, True), ([other, one], 1, 1, chain, True), ([other, one], 0, 1, chain, False), ([other, one], 1, 0, chain, False),
            ([one, other, one], 2, 0, chain, True), ([one, other, one], 0, 2, chain, True), ([one, other, one], 0, 3, chain, False),
            ([one, other, one], -1, 0, chain, False), ([one], 0, -1, chain, False), ([one], 1, 0, chain, False), ([one], 0, 1, chain, False),
            ([one, one], 0, True, chain, False), ([one, one], False, 0, chain, False), ([one, one], None, 0, chain, False),
            ([one, ~one], 0, 1, None, True), ([one, ~one], 1, 0, None, True), ([one, ~one], 0, 0, None, False), ([one, other], 0, 1, None, False),
            ([one, one], 0, 1, None, False), ([~one], 0, 0, ~chain, False), ([], 0, 0, None, False), ([], 0, 0, chain, False),
            ([other, ~other], 0, 1, None, True), ([one, said("c 3 sound")], 0, 0, chain, False), ([one, ~one, said("c 3 sound")], 0, 1, None, False),
            ([said("c 3 sound"), said("c 3 unsound")], 0, 1, None, False), ([one, said("a 5 sound")], 0, 1, Chain(*chain.steps[:2]), True),
            ([one, said("a 5 sound")], 1, 0, Chain(*chain.steps[:2]), False), ([one, said("a 5 sound")], 1, 0, Chain(*chain.steps[1:]), True),
        ):
            self.assertIs(looker(Apart(sayings, first, second, shown)), is_right, (sayings, first, second))

    def test_contraries_with_a_chain(self):
        loop = Chain(Step(said("a 3 sound"), said("b 9 sound"), 0), Step(said("b 9 sound"), said("a 3 sound"), 0))
        looker = Looker(Book(Agreed("a", 3, "b", 9)))
        sayings = [said("a 3 sound"), said("a 3 unsound")]
        self.assertEqual([looker(Apart(sayings, 0, 1, shown)) for shown in (None, loop, Chain(loop[0]))], [True, True, False])
        self.assertEqual([looker(Apart(sayings, 1, 0, shown)) for shown in (None, loop, ~loop)], [True, False, True])

    def test_together(self):
        book = Verdicts.BOOK
        looker, history = Looker(book), History(book.lives, {("a", 0): 3, ("b", 0): 4})
        for texts, is_right in (([], True), (["a 2 sound"], True), (["a 3 sound"], False), (["a 2 sound", "b 3 sound", "b 4 unsound", "a 2 sound"], True),
                                (["b 3 sound", "b 4 sound"], False), (["c 3 sound"], False), (["a 2 sound", "c 3 unsound"], False)):
            self.assertIs(looker(Together([said(text) for text in texts], history)), is_right)
        self.assertIs(looker(Together([said("b 3 sound")] * 200, history)), True)
        self.assertIs(looker(Together((), history.with_turn("a", 0, 6))), False)
        self.assertIs(looker(Together((), History.always(Book().lives))), False)
        self.assertIs(Looker(Book())(Together((), History.always(Book().lives))), True)


class Rows(Case):
    def test_follows(self):
        book = Book(Found("a", 5, False), r=("b", 9))
        looker = Looker(book)
        six = Chain(Step(said("a 6 sound"), said("a 5 sound"), "time"), Step(said("a 5 sound"), said("a 5 unsound"), 0),
                    Step(said("a 5 unsound"), said("a 6 unsound"), "time"))
        seven = Chain(Step(said("a 6 sound"), said("a 5 sound"), "time"), Step(said("a 5 sound"), said("a 5 unsound"), 0),
                      Step(said("a 5 unsound"), said("a 7 unsound"), "time"))
        for row, chains, is_right in (
            (Differed("a", 6, "b", 9), [six], True), (Differed("b", 9, "a", 6), [six], True), (Found("a", 6, False), [six], True),
            (Passed("b", 6, "a"), [six], True), (Failed("b", 6, "a"), [six], True), (Passed("a", 6, "b"), [six], False), (Found("a", 6, True), [six], False),
            (Differed("a", 6, "a", 7), [seven], True), (Differed("a", 7, "a", 6), [seven], False), (Differed("a", 7, "a", 6), [~seven], True),
            (Differed("a", 6, "b", 9), [], False), (Differed("a", 6, "b", 9), [six, six], False), (Differed("a", 6, "b", 9), [None], False),
            (Differed("a", 6, "b", 9), [seven], False), (Differed("a", 6, "c", 9), [six], False), (SetBy("b", 6, "a"), [six], False),
            (Begun("a", 6), [], False), (Begun("a", 6), [six], False), (Passed("a", 2, "a"), [None], True), (Passed("c", 2, "c"), [None], False),
            (Agreed("a", 2, "a", 2), [None, None], True), (Agreed("a", 2, "a", 2), [None], False), (Agreed("a", 2, "a", 2), [None, six], False),
            (Failed("a", 2, "a"), [None], False), (Found("b", 2, True), [None], False), (Trusted("a"), [None], False), (Trusted("a"), [], False),
        ):
            self.assertIs(looker(Follows(row, chains)), is_right, (str(row), len(chains)))
            self.assertEqual(looker(Follows(row, chains)), right(book, Follows(row, chains)))

    def test_trusted_in_several_lives(self):
        book = Book(Begun("a", 7), Found("a", 6, True), Found("a", 10 ** 30, True))
        looker = Looker(book)
        paper = shown_row(Judge(book), Trusted("a"))
        one, other = paper.chains
        self.assertEqual([looker(Follows(Trusted("a"), chains)) for chains in ((one, other), (other, one), (one,), (other,), (one, one), (one, other, other))],
                         [True] + [False] * 5)
        self.assertIs(Looker(Book(*[row for number, row in book.rows()], Begun("a", 20)))(paper), False)

    def test_broken(self):
        book = Book(Found("a", 5, False), r=("b", 9))
        looker, lives = Looker(book), book.lives
        history = History(lives, {("a", 0): 3, ("b", 0): 8})
        for row, is_right in ((Found("a", 3, True), True), (Found("a", 2, True), False), (Found("b", 7, False), True), (Found("b", 8, False), False),
                              (Trusted("b"), True), (Differed("a", 2, "b", 7), True), (Differed("a", 3, "b", 7), False), (Agreed("a", 2, "b", 8), True),
                              (Agreed("a", 3, "b", 7), True), (Agreed("a", 3, "b", 8), False), (Passed("a", 3, "b"), True), (Passed("b", 3, "a"), False),
                              (SetBy("b", 8, "a"), False), (SetBy("b", 7, "a"), False), (Begun("a", 3), False), (Found("c", 3, True), False),
                              (Passed("a", 3, "c"), False)):
            self.assertIs(looker(Broken(row, history)), is_right, str(row))
        self.assertIs(looker(Broken(Found("a", 3, True), history.with_turn("a", 0, 6))), False)
        self.assertIs(looker(Broken(Trusted("b"), History.always(Book(Trusted("b")).lives))), False)


class Whole(Case):
    """What holds of papers if rows are put and taken back."""

    def chains_only(self, paper):
        return bool(parts([paper])[1]) or (isinstance(paper, (Apart, Follows)))

    def test_a_row_more_and_taken_back(self):
        source, seen = random.Random(331), []
        for _ in range(150):
            book = kept_book(source)
            if not book.tools:
                continue
            papers = told_papers(Judge(book), source)
            row = some_row(source, book.tools, 6)
            if row.begins:
                continue
            number = book.put(row)
            looker = Looker(book)
            for paper in papers:
                kept = all(keeps(book, history) for history in parts([paper])[2])
                self.assertIs(looker(paper), self.chains_only(paper) or kept)
                seen.append((self.chains_only(paper), kept))
            book -= number
            looker = Looker(book)
            self.assertEqual([looker(paper) for paper in papers], [True] * len(papers))
        self.assertGreater(min(seen.count((True, True)), seen.count((False, True)), seen.count((False, False))), 50)

    def test_behind_a_taking_back_histories_stay_right(self):
        source, count = random.Random(332), 0
        for _ in range(120):
            book = kept_book(source)
            papers = [paper for paper in told_papers(Judge(book), source) if not self.chains_only(paper)]
            for number, row in list(book.rows()):
                less = book.twin()
                less -= number
                if row.begins or less.tools != book.tools:
                    continue
                looker = Looker(less)
                self.assertEqual([looker(paper) for paper in papers], [True] * len(papers))
                count += len(papers)
        self.assertGreater(count, 500)
