"""What follows from a book [17] and which rows it does not need, held against all histories of small books."""

import itertools
import random

from kit import STRANGE, TOP, Case
from made import books, keeping, some_row, true_in
from search import is_chain_of, shortest_steps
from soundtill.books import Book
from soundtill.chains import Chain
from soundtill.errors import Contradicted, NoEvidence, NoTool
from soundtill.follows import Broken, Follows, RowPaper, follows, needless, shown_row, thinned
from soundtill.held import alike
from soundtill.judge import Judge
from soundtill.rows import Agreed, Backed, Begun, Differed, Failed, Found, Passed, Served, SetBy, Trusted
from soundtill.sayings import Saying
from soundtill.turns import turns_of


def points_of(row, lives):
    return [saying.point for pair in row.pairs(lives) for saying in pair]


def keeps_row(history, row):
    """Whether a history keeps a row, by its own lives."""
    return not any(true_in(history, one) and true_in(history, other) for one, other in row.pairs(history.lives))


def row_follows(book, row):
    """Whether all histories of a book that keep it keep the row."""
    return all(keeps_row(history, row) for history in keeping(book, points_of(row, book.lives)))


def asked(seed, count=14):
    """Yields small books that are not contradicted, each with some rows about its tools that begin no life."""
    source = random.Random(seed)
    for book in itertools.chain(books(90, seed, most=6), books(60, seed + 1, tools="ab", top=4)):
        if book.tools and keeping(book):
            rows = [some_row(source, book.tools, 7) for _ in range(count)]
            yield book, [row for row in rows if not row.begins]


class RowsThatFollow(Case):
    def test_against_all_histories(self):
        words, kinds = [], {}
        for book, rows in asked(91):
            judges = Judge(book), Judge(book, *[(book.tools[0], k) for k in range(0, 9, 2)])
            for row in rows:
                expected = row_follows(book, row)
                for judge in judges:
                    self.assertIs(follows(judge, row), expected)
                    paper = shown_row(judge, row)
                    self.assertIs(type(paper), Follows if expected else Broken)
                    self.same(paper.evidence, row)
                    self.check_chains(book, row, paper) if expected else self.check_broken(book, row, paper)
                    self.same(shown_row(judge=judge, row=row), paper)
                words.append(expected)
                kinds.setdefault(row.kind, set()).add(expected)
        self.assertGreater(min(words.count(True), words.count(False)), 150)
        self.assertEqual(kinds, {kind: {True, False} for kind in (
            "found", "trusted", "passed", "failed", "agreed", "differed", "served", "backed")})

    def check_chains(self, book, row, paper):
        pairs = row.pairs(book.lives)
        self.assertIs(type(paper.chains), tuple)
        self.assertEqual(len(paper.chains), len(pairs))
        for (u, v), chain in zip(pairs, paper.chains):
            if v == ~u:
                self.assertIs(chain, None)
                continue
            ends = [(one, other) for one, other in ((u, ~v), (u, ~u), (v, ~v)) if shortest_steps(book, one, other) is not None]
            self.assertIs(type(chain), Chain)
            fitting = [pair for pair in ends if is_chain_of(book, chain, *pair)]
            self.assertTrue(fitting)
            self.assertEqual(len(chain), min(shortest_steps(book, *pair) for pair in ends))

    def check_broken(self, book, row, paper):
        history = paper.history
        self.assertEqual(history.lives, book.lives)
        self.assertTrue(all(keeps_row(history, kept) for number, kept in book.rows()))
        self.assertFalse(keeps_row(history, row))

    def test_each_chain_that_fits(self):
        judge = Judge(Book(Found("a", 5, False), Failed("b", 6, "c"), Passed("d", 3, "e")))
        for row, chain in ((Differed("a", 6, "b", 9), "a 6 sound, a 5 sound by time, a 5 unsound by 0, a 6 unsound by time"),
                           (Differed("b", 9, "a", 5), "a 5 sound, a 5 unsound by 0"),
                           (Differed("c", 7, "b", 8), "c 7 sound, c 6 sound by time, b 6 unsound by 1, b 8 unsound by time"),
                           (Backed("e", 3, "d", 2), "e 3 sound, d 3 sound by 2, d 2 sound by time"),
                           (Passed("d", 3, "e"), "e 3 sound, d 3 sound by 2"),
                           (Found("a", 5, False), "a 5 sound, a 5 unsound by 0")):
            self.assertEqual([str(found) for found in shown_row(judge, row).chains], [chain])

    def test_one_tool_twice(self):
        judge = Judge(Book(r=("a", 5)))
        for row, expected in ((Backed("a", 9, "a", 4), True), (Backed("a", 4, "a", 9), False), (Backed("a", 4, "a", 4), True),
                              (Passed("a", 4, "a"), True), (Failed("a", 4, "a"), False), (Agreed("a", 4, "a", 4), True),
                              (Agreed("a", 4, "a", 5), False), (Served("a", 4, "a", 4), False), (Differed("a", 4, "a", 9), False)):
            self.assertIs(follows(judge, row), expected)
        self.assertEqual(shown_row(judge, Agreed("a", 4, "a", 4)), Follows(Agreed("a", 4, "a", 4), (None, None)))
        self.assertEqual(str(shown_row(judge, Backed("a", 9, "a", 4)).chains[0]), "a 9 sound, a 4 sound by time")

    def test_trusted_by_each_life(self):
        book = Book(Begun("a", 7), Found("a", 6, True), Found("a", 9, True))
        self.assertIs(follows(Judge(book), Trusted("a")), False)
        self.assertIs(shown_row(Judge(book), Trusted("a")).history["a", 6], True)
        self.assertIs(shown_row(Judge(book), Trusted("a")).history["a", TOP], False)
        book += Found("a", TOP, True)
        paper = shown_row(Judge(book), Trusted("a"))
        self.assertEqual([str(chain) for chain in paper.chains], ["a 6 unsound, a 6 sound by 1", f"a {TOP} unsound, a {TOP} sound by 3"])
        book += Begun("a", 9)
        self.assertIs(follows(Judge(book), Trusted("a")), False)
        book += Trusted("a")
        self.assertEqual(len(shown_row(Judge(book), Trusted("a")).chains), 3)

    def test_no_evidence_ahead_of_no_tool(self):
        judge = Judge(Book(Passed("b", 8, "c")))
        for ask in (follows, shown_row):
            self.refused(lambda: ask(judge, Begun("b", 5)), NoEvidence, "begun")
            self.refused(lambda: ask(judge, Begun("z", 5)), NoEvidence, "begun")
            self.refused(lambda: ask(judge, SetBy("z", 5, "y")), NoEvidence, "setby")
            self.refused(lambda: ask(judge, Passed("z", 5, "y")), NoTool, "y")
            self.refused(lambda: ask(judge, Agreed("z", 5, "b", 3)), NoTool, "z")
            self.refused(lambda: ask(judge, Trusted("a")), NoTool, "a")

    def test_set_by_says_what_backed_says(self):
        book = Book(SetBy("a", 5, "b"))
        self.assertIs(follows(Judge(book), Backed("a", 5, "b", 5)), True)
        self.assertIs(follows(Judge(book), Passed("a", 5, "b")), False)
        self.assertIs(follows(Judge(book), Backed("a", 4, "b", 4)), False)

    def test_what_follows_changes_nothing_when_it_is_put_in(self):
        source, put = random.Random(93), 0
        for book, rows in asked(94):
            judge = Judge(book)
            points = sorted({*book.told, *[(source.choice(book.tools), source.randint(0, 8)) for _ in range(2)]})
            for row in rows:
                if follows(judge, row):
                    put += 1
                    more = Judge(book.tried(lambda same: [same.put(row), same.twin()][1]))
                    for point in sorted({*points, *points_of(row, book.lives)}):
                        self.assertEqual(more(Saying(*point, True)), judge(Saying(*point, True)))
                    for life in book.lives.listed:
                        self.same(turns_of(more, *life), turns_of(judge, *life))
        self.assertGreater(put, 100)


class Papers(Case):
    def setUp(self):
        self.judge = Judge(Book(Found("a", 5, False), r=("b", 9)))
        self.chain = self.judge.reach.shortest(Saying("a", 6, True), Saying("a", 6, False))
        self.history = self.judge.history_with()
        self.row, self.other = Differed("a", 6, "b", 9), Differed("b", 9, "a", 6)

    def test_fields(self):
        paper = Follows(chains=[self.chain, None], evidence=self.row)
        self.assertEqual((paper.word, paper.evidence, paper.chains, bool(paper)), ("follows", self.row, (self.chain, None), True))
        self.same(paper, Follows(self.row, (self.chain, None)))
        self.assertIs(type(paper.chains), tuple)
        broken = Broken(history=self.history, evidence=self.row)
        self.assertEqual((broken.word, broken.evidence, broken.history, bool(broken)), ("broken", self.row, self.history, False))
        self.same(broken, Broken(self.row, self.history))
        self.assertEqual((Follows.__bases__, Broken.__bases__), ((RowPaper,), (RowPaper,)))

    def test_what_is_done_to_the_list_afterwards(self):
        chains = [self.chain]
        paper = Follows(self.row, chains)
        chains.append(None)
        self.assertEqual(paper.chains, (self.chain,))

    def test_equal(self):
        papers = [
            Follows(self.row, [self.chain]), Follows(self.row, [None]), Follows(self.row, []), Follows(self.other, [self.chain]),
            Follows(self.row, [self.chain, self.chain]), Broken(self.row, self.history), Broken(self.other, self.history),
            Broken(self.row, self.judge.history_with(Saying("b", 9, False))), Follows(Found("a", 6, True), [self.chain]),
        ]
        self.assertNotEqual(self.history, papers[7].history)
        for one, other in itertools.combinations(papers, 2):
            self.unlike(one, other)
        for paper in papers:
            for value in [None, True, "follows", self.row, self.chain, self.history, *STRANGE]:
                self.unlike(paper, value)


def needless_by_search(book, numbers=None):
    """The numbers of the rows that follow from the other ones of these, by the lives and tools of the whole book."""
    rows = {number: row for number, row in book.rows() if numbers is None or number in numbers}
    points = [point for row in rows.values() for point in points_of(row, book.lives)]
    # The beginnings and the tools of the whole book, without any pair; SetBy would have one.
    beginnings = [row for number, row in book.rows() if isinstance(row, Begun)]
    histories = keeping(Book(*beginnings, **{tool: (tool, 0) for tool in book.tools}), points)
    found = []
    for number, row in rows.items():
        if row.begins:
            continue
        others = [other for k, other in rows.items() if k != number]
        kept = [history for history in histories if all(keeps_row(history, other) for other in others)]
        if all(keeps_row(history, row) for history in kept):
            found.append(number)
    return found


def without_set_by(seed):
    """Yields small books that are not contradicted, in which no row is a SetBy, some with rows twice."""
    source = random.Random(seed)
    for book in itertools.chain(books(90, seed, top=3, most=5), books(60, seed + 1, tools="ab", top=3, most=6)):
        for number, row in list(book.rows()):
            if isinstance(row, SetBy):
                book -= number
                book += Begun(row.tool, row.moment)
            elif source.random() < 0.15:
                book += row
        if keeping(book):
            yield book


class Needless(Case):
    def test_against_all_histories(self):
        many = []
        for book in without_set_by(95):
            found = needless(book)
            self.assertIs(type(found), tuple)
            self.assertEqual(list(found), needless_by_search(book))
            many.append(len(found))
        self.assertGreater(len([count for count in many if count]), 40)

    def test_set_by_is_never_needless_but_makes_others_so(self):
        book = Book(SetBy("a", 5, "b"), Backed("a", 5, "b", 4), SetBy("a", 5, "b"), Begun("a", 5), Begun("c", 2))
        self.assertEqual(needless(book), (1,))
        self.assertEqual(str(thinned(book)), "setby a 5 b\nsetby a 5 b\nbegun a 5\nbegun c 2")

    def test_the_row_alone_names_its_tool(self):
        book = Book(Backed("a", 9, "a", 4), Passed("b", 3, "b"), Agreed("c", 5, "c", 5), Found("d", 3, True))
        self.assertEqual(needless(book), (0, 1, 2))
        thin = thinned(book)
        self.assertEqual(([number for number, row in thin.rows()], thin.tools), ([3], ("d",)))
        later = Book(Begun("a", 5), Backed("a", 9, "a", 4), Backed("a", 9, "a", 5))
        self.assertEqual(needless(later), (2,))

    def test_equal_rows_twice(self):
        book = Book(Found("a", 5, True), Trusted("b"), Found("a", 5, True), Trusted("b"), Found("a", 4, True))
        self.assertEqual(needless(book), (0, 1, 2, 3, 4))
        self.assertEqual([number for number, row in thinned(book).rows()], [0, 1])

    def test_from_the_greatest_number_down(self):
        book = Book(Found("a", 3, True), Found("a", 5, True), Found("a", 4, True))
        self.assertEqual((needless(book), [number for number, row in thinned(book).rows()]), ((0, 2), [1]))
        book = Book(Agreed("a", 3, "b", 3), Agreed("b", 3, "c", 3), Agreed("c", 3, "a", 3))
        self.assertEqual((needless(book), [number for number, row in thinned(book).rows()]), ((0, 1, 2), [0, 1]))

    def test_thinned_against_a_search(self):
        for book in without_set_by(97):
            thin = thinned(book=book)
            left = [number for number, row in book.rows()]
            for number in reversed(list(left)):
                if number in needless_by_search(book, left):
                    left.remove(number)
            self.assertEqual([number for number, row in thin.rows()], left)
            self.assertEqual(thin.records, book.records)
            self.assertEqual(needless_by_search(book, left), [])
            if thin.lives == book.lives:
                self.assertIs(alike(book, thin), True)
                self.assertEqual(needless(thin), ())

    def test_thinned_is_a_twin(self):
        book = Book(Found("a", 3, True), Found("a", 5, True), Found("b", 3, True), r=("a", 4))
        book -= 0
        book += Found("a", 2, True)
        book.set_today(9)
        before = str(book), book.deeds
        thin = thinned(book)
        self.assertEqual(([number for number, row in thin.rows()], thin.today, thin.deeds, thin.records), ([1, 2], 9, 7, {"r": ("a", 4)}))
        self.assertEqual((thin.known(6), thin.known(4)), (book, book.known(4)))
        self.assertEqual((str(book), book.deeds), before)
        self.assertEqual(thin.put(Found("a", 9, False)), 4)
        self.assertEqual(len(book), 3)
        same = thinned(Book(Found("a", 3, True)))
        self.assertEqual(same.deeds, 1)

    def test_contradicted(self):
        book = Book(Trusted("a"), Found("a", 9, False), Found("a", 3, True))
        for ask in (needless, thinned):
            self.refused(lambda: ask(book), Contradicted, 1)
        self.assertEqual((needless(Book()), thinned(Book()), needless(book=Book(r=("a", 1)))), ((), Book(), ()))
