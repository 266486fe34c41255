"""Histories [5], [7] to [10]."""

import itertools
import random
import unittest

from kit import STRANGE, TOP, Case
from made import all_histories, books, keeping, true_in
from soundtill.books import Book
from soundtill.errors import BadMoment, BadTurn, NoTool, Unlike
from soundtill.histories import History
from soundtill.lives import Lives
from soundtill.rows import Agreed, Begun, Differed, Failed, Found, Passed, SetBy, Trusted
from soundtill.sayings import Saying


class Made(Case):
    def setUp(self):
        self.lives = Lives({"a": [7, 9], "b": []})
        self.turns = {("b", 0): None, ("a", 0): 3, ("a", 7): 7, ("a", 9): TOP}
        self.history = History(self.lives, self.turns)

    def test_lives_and_turns(self):
        self.same(self.history.lives, self.lives)
        self.assertEqual(self.history.turns, self.turns)
        self.same(History(turns=self.turns, lives=self.lives), self.history)

    def test_turns_is_a_new_dict(self):
        turns = self.history.turns
        turns[("b", 0)] = 5
        del turns[("a", 0)]
        self.turns[("a", 7)] = None
        self.assertEqual(self.history.turns, {("b", 0): None, ("a", 0): 3, ("a", 7): 7, ("a", 9): TOP})
        self.assertIsNot(self.history.turns, self.history.turns)

    def test_no_lives(self):
        history = History(Lives({}), {})
        self.assertEqual((str(history), history.turns), ("nothing", {}))
        self.same(history, History.always(Lives({})))

    def test_turns_of_a_life(self):
        for life in self.lives.listed:
            last = self.lives.last_of(life)
            for turn in (None, life[1], last):
                self.assertEqual(History(self.lives, {**self.turns, life: turn}).turns[life], turn)
            for turn in (life[1] - 1, last + 1, True, False, -1, "none", *STRANGE):
                self.refused(lambda: History(self.lives, {**self.turns, life: turn}), BadTurn, life)
        self.assertEqual(History(Lives({"a": []}), {("a", 0): 1}).turns, {("a", 0): 1})
        self.refused(lambda: History(Lives({"a": []}), {("a", 0): True}), BadTurn, ("a", 0))
        self.refused(lambda: History(Lives({"a": []}), {("a", 0): False}), BadTurn, ("a", 0))

    def test_first_life_with_a_wrong_turn(self):
        wrong = {("b", 0): -1, ("a", 9): 8, ("a", 7): 9, ("a", 0): 6}
        self.refused(lambda: History(self.lives, wrong), BadTurn, ("a", 7))
        self.refused(lambda: History(self.lives, {**wrong, ("a", 7): 8}), BadTurn, ("a", 9))
        self.refused(lambda: History(self.lives, {**wrong, ("a", 7): 8, ("a", 9): 9}), BadTurn, ("b", 0))

    def test_just_these_lives(self):
        fewer = {life: None for life in self.lives.listed[1:]}
        for turns in (
            {}, fewer, {**self.turns, ("b", 1): None}, {**fewer, ("a", False): None}, {**fewer, ("a", 1): None},
            {**fewer, "a": None}, {**fewer, None: None}, {**fewer, ("a",): None}, {**fewer, ("c", 0): None}, {**fewer, ("a", "0"): 3},
            {**fewer, 0: 0}, {**fewer, ("a", (0,)): 3}, {**fewer, ("a", 0, 0): -1}, {**{life: -1 for life in fewer}, 5: 5},
        ):
            self.refused(lambda: History(self.lives, turns), BadTurn, None)
        for value in [None, True, 0, list(self.turns.items()), *STRANGE]:
            self.refused(lambda: History(self.lives, value), BadTurn, None)
        self.refused(lambda: History(Lives({"a": [1]}), {("a", 0): None, ("a", True): None}), BadTurn, None)

    def test_asked(self):
        sound = {("a", 0): True, ("a", 2): True, ("a", 3): False, ("a", 6): False, ("a", 7): False, ("a", 8): False, ("a", 9): True,
                 ("a", TOP - 1): True, ("a", TOP): False, ("b", 0): True, ("b", TOP): True}
        turns = {0: 3, 7: 7, 9: TOP}
        for (tool, moment), truth in sound.items():
            self.assertIs(self.history[tool, moment], truth)
            self.assertIs(self.history(Saying(tool, moment, True)), truth)
            self.assertIs(self.history(saying=Saying(tool, moment, False)), not truth)
            beginning = self.lives.life_of(tool, moment)[1]
            self.assertEqual(self.history.turn(tool=tool, moment=moment), turns[beginning] if tool == "a" else None)

    def test_asked_refused(self):
        for value in [None, True, 0, "c", *STRANGE]:
            self.refused(lambda: self.history[value, 3], NoTool, value)
            self.refused(lambda: self.history.turn(value, value), NoTool, value)
            self.refused(lambda: self.history.with_turn(value, value, value), NoTool, value)
        for value in [None, True, False, "0", *STRANGE]:
            self.refused(lambda: self.history["a", value], BadMoment, value)
            self.refused(lambda: self.history.turn("a", value), BadMoment, value)
            self.refused(lambda: self.history.with_turn("a", value, value), BadMoment, value)
        self.refused(lambda: self.history(Saying("c", 3, True)), NoTool, "c")

    def test_not_iterated_over(self):
        with self.assertRaises(TypeError):
            iter(self.history)

    def test_with_turn(self):
        other = self.history.with_turn("a", 8, 8)
        self.assertEqual(other.turns, {**self.turns, ("a", 7): 8})
        self.assertEqual(self.history.turns, self.turns)
        self.assertEqual(self.history.with_turn(turn=None, moment=6, tool="a").turns, {**self.turns, ("a", 0): None})
        for value in [6, 9, True, False, "none", 0, *STRANGE]:
            self.refused(lambda: self.history.with_turn("a", 8, value), BadTurn, ("a", 7))
        self.refused(lambda: History(Lives({"a": []}), {("a", 0): 5}).with_turn("a", 3, True), BadTurn, ("a", 0))

    def test_equal(self):
        self.same(self.history, History(Lives({"b": (), "a": (9, 9, 7)}), self.turns))
        self.unlike(self.history, self.history.with_turn("a", 0, 4))
        self.unlike(self.history, History.always(self.lives))
        self.unlike(History.always(Lives({"a": []})), History.always(Lives({"a": [1]})))
        self.unlike(History.always(Lives({"a": []})), History.always(Lives({"b": []})))
        for other in [None, True, str(self.history), self.turns, *STRANGE]:
            self.unlike(self.history, other)

    def test_text(self):
        self.assertEqual(str(self.history), f"a 0 3, a 7 7, a 9 {TOP}, b 0 none")
        self.assertEqual(str(History.always(Lives({"b": [], "a10": [], "a2": []}))), "a10 0 none, a2 0 none, b 0 none")

    def test_always(self):
        always = History.always(lives=self.lives)
        self.assertEqual(always.turns, {life: None for life in self.lives.listed})
        self.same(always.lives, self.lives)


class Ordered(Case):
    def test_turn_by_turn(self):
        lives = Lives({"a": [3], "b": []})
        turns = itertools.product([0, 1, 2, None], [3, 9, 10, TOP, None], [0, 5, None])
        ascending = [History(lives, dict(zip(lives.listed, some))) for some in turns]
        for at, one in enumerate(ascending):
            for k, other in enumerate(ascending):
                self.assertIs(one.is_ahead(other), at < k)
        self.assertIs(History.always(Lives({})).is_ahead(other=History.always(Lives({}))), False)

    def test_unlike(self):
        one = History.always(Lives({"a": [], "b": [5], "c": []}))
        for begun, tool in (
            ({"a": [], "b": [], "c": []}, "b"), ({"a": [], "b": [5]}, "c"), ({"b": [5], "c": [3]}, "a"), ({"a": [1], "c": []}, "a"),
            ({"a": [], "b": [5], "c": [], "d": []}, "d"), ({"a": [], "a0": [], "b": [4], "c": []}, "a0"), ({}, "a"),
        ):
            other = History.always(Lives(begun))
            self.refused(lambda: one.is_ahead(other), Unlike, tool)
            self.refused(lambda: other.is_ahead(one), Unlike, tool)
            self.refused(lambda: History.middle(one, other, one), Unlike, tool)
            self.refused(lambda: History.middle(other, one, one), Unlike, tool)
            self.refused(lambda: History.middle(one, one, other), Unlike, tool)
        two, three = History.always(Lives({"a": [], "b": [], "c": []})), History.always(Lives({"b": [5]}))
        self.refused(lambda: History.middle(one, two, three), Unlike, "b")
        self.refused(lambda: History.middle(one, three, two), Unlike, "a")

    def test_middle(self):
        lives = Lives({"a": [], "b": []})
        for some in ((3, 5, 9), (0, 5, None), (5, None, None), (3, 3, None), (0, 0, TOP), (None, None, None), (7, 7, 7)):
            for a, b in itertools.product(itertools.permutations(some), itertools.permutations((1, 4, None))):
                three = [History(lives, {("a", 0): one, ("b", 0): other}) for one, other in zip(a, b)]
                self.assertEqual(History.middle(*three).turns, {("a", 0): some[1], ("b", 0): 4})
        one = History.always(lives)
        self.same(History.middle(one=one, three=one, two=one), one)


class Books(Case):
    def test_broken(self):
        book = Book(Trusted("x"), Agreed("a", 3, "b", 9), Passed("a", 8, "b"), Begun("b", 20))
        book -= 0
        lives = book.lives
        for turns, broken in (
            ((3, 8, None), None), ((3, 9, None), (2, 0)), ((4, 9, None), (1, 0)), ((3, None, None), (1, 1)), ((None, None, 20), None),
            ((0, 0, None), None), ((4, None, None), (2, 0)), ((9, 9, None), (1, 0)), ((0, None, None), (1, 1)), ((9, None, 30), None),
        ):
            history = History(lives, dict(zip(lives.listed, turns)))
            self.assertEqual(history.broken(book), broken)
            self.assertEqual(history.broken(book=book), broken)
            self.assertIs(history.keeps(book), broken is None)
            self.assertIs(history.keeps(book=book), broken is None)

    def test_first_row_and_first_pair(self):
        book = Book(Trusted("a"), Begun("a", 5), Trusted("a"))
        lives = book.lives
        for turns, broken in (((None, None), None), ((None, 9), (0, 1)), ((4, None), (0, 0)), ((0, 5), (0, 0)), ((None, TOP), (0, 1))):
            self.assertEqual(History(lives, dict(zip(lives.listed, turns))).broken(book), broken)
        book -= 0
        self.assertEqual(History(lives, {("a", 0): None, ("a", 5): 9}).broken(book), (2, 1))

    def test_contradicted_book(self):
        book = Book(Found("a", 3, True), Found("a", 2, False))
        for turn, broken in ((None, (1, 0)), (0, (0, 0)), (3, (0, 0)), (4, (1, 0))):
            history = History(book.lives, {("a", 0): turn})
            self.assertEqual(history.broken(book), broken)
            self.assertEqual(history.plain(book).broken(book), broken)

    def test_set_by(self):
        book = Book(SetBy("a", 5, "b"))
        for a, b, kept in ((None, None, True), (None, 5, False), (5, 5, True), (5, None, True), (None, 6, True)):
            history = History(book.lives, {("a", 0): None, ("a", 5): a, ("b", 0): b})
            self.assertIs(history.keeps(book), kept)

    def test_more_tools(self):
        book = Book(Failed("a", 3, "a"))
        history = History(Lives({"a": [], "c": [4], "b": []}), {("a", 0): 3, ("b", 0): 7, ("c", 0): None, ("c", 4): 6})
        self.assertIs(history.keeps(book), True)
        self.assertEqual(str(history.plain(book)), "a 0 0, b 0 none, c 0 none, c 4 none")
        self.assertEqual(str(history.plain(book, ("c", 5), ("b", 8), ("c", 9))), "a 0 0, b 0 0, c 0 none, c 4 6")
        self.assertEqual(str(history.plain(Book(), ("c", 5), ("c", 3), ("c", 8), ("a", 1), ("b", 6), ("b", 9))),
                         "a 0 none, b 0 7, c 0 none, c 4 6")

    def test_unlike(self):
        history = History.always(Lives({"a": [], "b": [4], "d": []}))
        for book, tool in (
            (Book(Trusted("c")), "c"), (Book(Trusted("c"), Trusted("b")), "b"), (Book(Begun("a", 3), Trusted("d")), "a"),
            (Book(r=("c", 3)), "c"), (Book(r=("b", 3)), "b"), (Book(Begun("b", 5)), "b"), (Book(Begun("b", 4), Begun("d", 4)), "d"),
        ):
            for ask in (history.broken, history.keeps, history.plain, lambda book: history.plain(book, ("a0", 3))):
                self.refused(lambda: ask(book), Unlike, tool)
        self.assertIs(history.keeps(Book(Begun("b", 4), Trusted("a"))), True)
        self.refused(lambda: history.plain(Book(), ("z", 3), ("c", 9), ("a", 3), ("c", 1)), Unlike, "c")
        self.refused(lambda: history.plain(Book(Trusted("d")), ("z", 3)), Unlike, "z")
        # A point's tool that the book does not have may have any lives here.
        self.same(history.plain(Book(Trusted("d")), ("b", 3), ("b", 9)), history)

    def test_plain_turns(self):
        book = Book(r=("a", 5), q=("a", 2), p=("a", TOP))
        for turn, plain in ((0, 0), (1, 0), (2, 0), (3, 3), (4, 3), (5, 3), (6, 6), (7, 6), (TOP, 6), (None, None)):
            self.assertEqual(History(book.lives, {("a", 0): turn}).plain(book).turns, {("a", 0): plain})
        for turn, plain in ((0, 0), (2, 0), (3, 3), (5, 3), (6, 6), (9, 6), (10, None), (11, None), (None, None)):
            history = History(Lives({"a": []}), {("a", 0): turn})
            self.assertEqual(history.plain(Book(q=("a", 2)), ("a", 9), ("a", 5), ("a", 9)).turns, {("a", 0): plain})
        for turn in (0, 5, None):
            self.assertEqual(History(Lives({"a": []}), {("a", 0): turn}).plain(Book()).turns, {("a", 0): None})


class AllCases(Case):
    """Small books, with all their histories."""

    def test_true_by_the_turns_alone(self):
        for book in books(25, 1):
            for history in list(all_histories(book))[:40]:
                for (tool, moment), truth in itertools.product(book.told, (True, False)):
                    saying = Saying(tool, moment, truth)
                    self.assertIs(history(saying), true_in(history, saying))

    def test_broken_by_the_first_pair(self):
        for book in books(60, 2):
            lives = book.lives
            pairs = [(number, k, pair) for number, row in book.rows() for k, pair in enumerate(row.pairs(lives))]
            for history in list(all_histories(book))[:60]:
                broken = [(number, k) for number, k, (one, other) in pairs if true_in(history, one) and true_in(history, other)]
                self.assertEqual(history.broken(book), broken[0] if broken else None)
                self.assertIs(history.keeps(book), not broken)

    def test_plain_form(self):
        source = random.Random(3)
        for book in books(60, 4):
            lives = book.lives
            points = [(source.choice(book.tools), source.randint(0, 9)) for _ in range(2)] if book.tools else []
            told = sorted({*book.told, *points})
            for _ in range(15):
                turns = {}
                for life in lives.listed:
                    last = min(lives.last_of(life), 12)
                    turns[life] = source.choice([None, life[1], source.randint(life[1], max(last, life[1])), lives.last_of(life)])
                history = History(lives, turns)
                plain = history.plain(book, *points)
                self.same(plain.plain(book, *points), plain)
                self.assertIs(plain.keeps(book), history.keeps(book))
                self.assertEqual([plain[point] for point in told], [history[point] for point in told])
                for life, turn in plain.turns.items():
                    moments = [moment for tool, moment in told if lives.life_of(tool, moment) == life]
                    self.assertIn(turn, [None, *([life[1]] if moments else []), *[moment + 1 for moment in moments[:-1]]])

    def test_middle_of_three_that_keep_a_book(self):
        source = random.Random(5)
        for book in books(60, 6):
            kept = keeping(book)
            for _ in range(20 if kept else 0):
                self.assertIs(History.middle(*[source.choice(kept) for _ in range(3)]).keeps(book), True)

    def test_lesser_and_greater_need_not_keep(self):
        book = Book(Differed("a", 5, "b", 5))
        one = History(book.lives, {("a", 0): 5, ("b", 0): None})
        two = History(book.lives, {("a", 0): None, ("b", 0): 5})
        self.assertEqual([one.keeps(book), two.keeps(book), History.always(book.lives).keeps(book)], [True, True, False])


if __name__ == "__main__":
    unittest.main()
