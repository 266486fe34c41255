"""Sets of turns, moment by moment for short lives, and the turns of a life against all histories of small books."""

import itertools
import random

from kit import STRANGE, TOP, Case
from made import books, keeping, some_book, true_in
from soundtill.books import Book
from soundtill.errors import BadMoment, BadTurn, BadTurns, Contradicted, NoTool
from soundtill.histories import History
from soundtill.judge import Judge
from soundtill.lives import Lives
from soundtill.rows import Begun, Failed, Found, Passed, SetBy, Trusted
from soundtill.turns import Turns, turn_sayings, turns_of


def some_stretches(source, first, last):
    """Stretches in any order, which may touch or overlap or be equal."""
    ends = [sorted(source.choices(range(first, last + 1), k=2)) for _ in range(source.randint(0, 3))]
    return [tuple(pair) for pair in ends]


def members(turns):
    """The turns of a short life, asked one by one."""
    return [turn for turn in [*range(turns.low, turns.high + 1), None] if turn in turns]


def moments_of(stretches, has_none):
    return {moment for low, high in stretches for moment in range(low, high + 1)} | ({None} if has_none else set())


class Made(Case):
    def test_fields(self):
        turns = Turns(3, 20, [(5, 7)], True)
        self.assertEqual((turns.low, turns.high, turns.stretches, turns.has_none), (3, 20, ((5, 7),), True))
        self.same(Turns(has_none=True, stretches=[(5, 7)], last=20, first=3), turns)
        self.same(Turns(3, 20), Turns(3, 20, (), False))
        self.assertIs(type(turns.stretches), tuple)

    def test_first_equal_to_last(self):
        for moment in (0, 7, TOP):
            turns = Turns(moment, moment, [(moment, moment)])
            self.assertEqual((members(turns), turns.stretches, (~turns).stretches), ([moment], ((moment, moment),), ()))
            self.same(~turns, Turns(moment, moment, (), True))
            self.same(Turns.whole(moment, moment), Turns(moment, moment, [(moment, moment)], True))
        self.refused(lambda: Turns(7, 7, [(7, 8)]), BadTurns, 0)

    def test_the_longest_life(self):
        turns = Turns(0, TOP, [(TOP, TOP), (0, 0)])
        self.assertEqual((turns.stretches, (~turns).stretches, (~turns).has_none), (((0, 0), (TOP, TOP)), ((1, TOP - 1),), True))
        self.same(turns | ~turns, Turns.whole(0, TOP))
        self.same(turns & ~turns, Turns(0, TOP))
        self.assertEqual([moment in turns for moment in (0, 1, TOP - 1, TOP, TOP + 1, -1)], [True, False, False, True, False, False])

    def test_stretches_in_any_order(self):
        for stretches, fewest in (
            ([(5, 7), (0, 2), (3, 3)], ((0, 3), (5, 7))), ([(0, 2), (4, 5)], ((0, 2), (4, 5))), ([(4, 5), (0, 3)], ((0, 5),)),
            ([(2, 2), (2, 2)], ((2, 2),)), ([(0, 9), (3, 4)], ((0, 9),)), ([(3, 4), (0, 9), (10, 10), (12, 12)], ((0, 10), (12, 12))),
            ([(6, 8), (1, 6)], ((1, 8),)), (((1, 2), (3, 4), (5, 6)), ((1, 6),)), ((), ()), ([], ()),
            ([(0, 5), (1, 2), (3, 4), (7, 8)], ((0, 5), (7, 8))),
        ):
            for ordered in itertools.permutations(stretches):
                self.assertEqual(Turns(0, 20, list(ordered)).stretches, fewest)
                self.assertEqual(Turns(0, 20, ordered).stretches, fewest)

    def test_stretches_are_no_list(self):
        for value in [None, True, 0, 7, "ab", {"a": 0}, *STRANGE]:
            if not isinstance(value, (list, tuple)):
                self.refused(lambda: Turns(0, 9, value), BadTurns, None)

    def test_first_wrong_item(self):
        wrong = [[3, 4], (3,), (3, 4, 5), (), (True, 4), (0, True), (False, 0), (1, 4), (3, 10), (5, 4), (-1, 3), (3, None), None, "ab", 3,
                 (3, TOP + 1), ("a", 4), (3, "a"), ((3, 4),), {3: 4}, *STRANGE]
        for value in wrong:
            self.refused(lambda: Turns(2, 9, [value]), BadTurns, 0)
            self.refused(lambda: Turns(2, 9, ((2, 9), (4, 4), value, (4, 4), None)), BadTurns, 2)
        self.refused(lambda: Turns(2, 9, ["a", (5, 4)]), BadTurns, 0)
        self.assertEqual(Turns(2, 9, [(2, 9)]).stretches, ((2, 9),))

    def test_what_is_passed_stays(self):
        stretches = [(5, 7), (0, 2), (3, 3)]
        turns = Turns(0, 20, stretches)
        self.assertEqual(stretches, [(5, 7), (0, 2), (3, 3)])
        stretches.append((9, 9))
        self.assertEqual(turns.stretches, ((0, 3), (5, 7)))

    def test_least_and_truth(self):
        for turns, least, truth in ((Turns(3, 9), None, False), (Turns(3, 9, (), True), None, True), (Turns(3, 9, [(5, 6), (4, 4)]), 4, True),
                                    (Turns.whole(3, 9), 3, True), (Turns(0, 9, [(0, 0)]), 0, True),
                                    (Turns(0, 9, [(8, 9), (2, 3), (5, 5)]), 2, True)):
            self.assertEqual(turns.least, least)
            self.assertIs(bool(turns), truth)

    def test_in_with_any_value(self):
        turns = Turns(0, 20, [(0, 2), (5, 7)])
        for value in (0, 1, 2, 5, 7):
            self.assertIs(value in turns, True)
        for value in [3, 4, 8, 20, 21, -1, None, True, False, "none", "1", (0, 2), *STRANGE]:
            self.assertIs(value in turns, False)
        self.assertIs(None in Turns(0, 20, (), True), True)
        self.assertIs(0 in Turns(0, 20, (), True), False)
        for value in [True, False, *STRANGE]:
            self.assertIs(value in Turns.whole(0, 20), False)

    def test_whole(self):
        self.same(Turns.whole(3, 9), Turns(3, 9, [(3, 9)], True))
        self.same(Turns.whole(last=9, first=3), ~Turns(3, 9))

    def test_text(self):
        for turns, text in ((Turns(0, 20, [(5, 7), (0, 2), (3, 3)], True), "0..3 5..7 none"), (Turns(0, 20), "nothing"),
                            (Turns(0, 20, (), True), "none"), (Turns(0, 20, [(4, 4)]), "4"), (Turns(0, 20, [(4, 5)]), "4..5"),
                            (Turns.whole(0, TOP), f"0..{TOP} none"), (Turns(0, 20, [(9, 9), (4, 4)], True), "4 9 none")):
            self.assertEqual(str(turns), text)


class Signs(Case):
    def some(self):
        source = random.Random(31)
        for first, last in ((0, 0), (3, 3), (0, 1), (2, 4), (5, 10)):
            for _ in range(40):
                yield first, last, [(some_stretches(source, first, last), source.random() < 0.5) for _ in range(2)]

    def test_moment_by_moment(self):
        within = []
        for first, last, ((one_stretches, one_none), (other_stretches, other_none)) in self.some():
            one, other = Turns(first, last, one_stretches, one_none), Turns(first, last, other_stretches, other_none)
            ones, others = moments_of(one_stretches, one_none), moments_of(other_stretches, other_none)
            every = moments_of([(first, last)], True)
            for turns, expected in ((one, ones), (one & other, ones & others), (one | other, ones | others), (~one, every - ones)):
                self.assertIs(type(turns), Turns)
                self.assertEqual((turns.low, turns.high, set(members(turns))), (first, last, expected))
                for low, high in zip(turns.stretches, turns.stretches[1:]):
                    self.assertLess(low[1] + 1, high[0])
            self.assertIs(one.within(other), ones <= others)
            self.assertIs(one == other, ones == others)
            self.assertIs(one != other, ones != others)
            within.append(one.within(other))
        self.assertGreater(min(within.count(True), within.count(False)), 20)

    def test_unlike_lives(self):
        one = Turns(0, 9, [(3, 4)], True)
        for other in (Turns(0, 8, [(3, 4)], True), Turns(1, 9, [(3, 4)], True), Turns(0, 10), Turns(1, 10)):
            for ask in (lambda: one & other, lambda: other & one, lambda: one | other, lambda: other | one,
                        lambda: one.within(other), lambda: other.within(one)):
                self.refused(ask, BadTurns, None)
            self.unlike(one, other)
        self.unlike(Turns(0, 9), Turns(0, 8))

    def test_equal(self):
        self.same(Turns(0, 9, [(3, 4), (5, 6)]), Turns(0, 9, ((3, 6),)))
        one = Turns(0, 9, [(3, 4)])
        for value in [Turns(0, 9, [(3, 4)], True), Turns(0, 9, [(3, 5)]), Turns(0, 9), None, True, (3, 4), ((3, 4),), "3..4", *STRANGE]:
            self.unlike(one, value)

    def test_nothing_changes(self):
        one, other = Turns(0, 9, [(3, 4)]), Turns(0, 9, [(4, 7)], True)
        one & other, one | other, ~one, one.within(other)
        self.same(one, Turns(0, 9, [(3, 4)]))
        self.same(other, Turns(0, 9, [(4, 7)], True))


class TurnsOf(Case):
    def test_against_all_histories(self):
        gaps = 0
        for book in itertools.chain(books(120, 32), books(120, 33, tools="ab", top=4, most=6), books(30, 34, tools="ab", top=9, most=8)):
            if not keeping(book):
                continue
            judge = Judge(book)
            for life in judge.book.lives.listed:
                tool, beginning = life
                last = book.lives.last_of(life)
                # Each moment near the told ones and the ends is tried as a turn by itself, and the other lives in all ways.
                near = range(beginning, min(last, 14) + 1)
                asked = sorted({*near, last})
                points = [(tool, moment) for moment in {*near, last, max(beginning, last - 1)}]
                seen = {history.turns[life] for history in keeping(book, points)}
                turns = turns_of(judge, tool, beginning)
                self.assertIs(type(turns), Turns)
                self.assertEqual((turns.low, turns.high), (beginning, last))
                for turn in [*asked, None]:
                    self.assertIs(turn in turns, turn in seen)
                self.same(turns_of(judge, tool, last), turns)
                self.same(turns_of(judge, tool, random.Random(0).choice(asked)), turns)
                gaps += len(turns.stretches) > 1
        self.assertGreater(gaps, 10)

    def test_further_points_change_nothing(self):
        for book in books(60, 35):
            if keeping(book) and book.tools:
                points = [(tool, moment) for tool in book.tools for moment in (0, 4, 11, TOP)]
                for tool, beginning in book.lives.listed:
                    self.same(turns_of(Judge(book, *points), tool, beginning), turns_of(Judge(book), tool, beginning))

    def test_lives_without_told_points(self):
        judge = Judge(Book(Begun("a", 5), Begun("a", 6)))
        self.same(turns_of(judge, "a", 0), Turns.whole(0, 4))
        self.same(turns_of(judge, "a", 5), Turns.whole(5, 5))
        self.same(turns_of(judge=judge, tool="a", moment=TOP), Turns.whole(6, TOP))

    def test_told_at_the_ends(self):
        judge = Judge(Book(Found("a", 4, True), Begun("a", 5), Found("a", 5, False), Trusted("b"), Found("c", 0, False), Found("d", TOP, False)))
        self.same(turns_of(judge, "a", 2), Turns(0, 4, (), True))
        self.same(turns_of(judge, "a", 7), Turns(5, TOP, [(5, 5)]))
        self.same(turns_of(judge, "b", 7), Turns(0, TOP, (), True))
        self.same(turns_of(judge, "c", 7), Turns(0, TOP, [(0, 0)]))
        self.same(turns_of(judge, "d", 7), Turns(0, TOP, [(0, TOP)]))

    def test_errors(self):
        judge = Judge(Book(Passed("a", 8, "b")))
        for tool in ["c", None, True, 0, *STRANGE]:
            self.refused(lambda: turns_of(judge, tool, -1), NoTool, tool)
        for moment in [None, True, False, "0", *STRANGE]:
            self.refused(lambda: turns_of(judge, "a", moment), BadMoment, moment)


class TurnSayings(Case):
    def setUp(self):
        self.lives = Lives({"a": [7, 8], "b": []})

    def told(self, *asked):
        return [str(saying) for saying in turn_sayings(self.lives, *asked)]

    def test_each_turn(self):
        self.assertEqual(self.told("a", 3, None), ["a 6 sound"])
        self.assertEqual(self.told("a", 3, 0), ["a 0 unsound"])
        self.assertEqual(self.told("a", 3, 1), ["a 0 sound", "a 1 unsound"])
        self.assertEqual(self.told("a", 0, 6), ["a 5 sound", "a 6 unsound"])
        self.assertEqual(self.told("a", 7, None), ["a 7 sound"])
        self.assertEqual(self.told("a", 7, 7), ["a 7 unsound"])
        self.assertEqual(self.told("a", 20, None), [f"a {TOP} sound"])
        self.assertEqual(self.told("a", 8, 8), ["a 8 unsound"])
        self.assertEqual(self.told("a", 20, 9), ["a 8 sound", "a 9 unsound"])
        self.assertEqual(self.told("b", 20, TOP), [f"b {TOP - 1} sound", f"b {TOP} unsound"])
        self.assertIs(type(turn_sayings(lives=self.lives, tool="a", moment=3, turn=None)), tuple)

    def test_true_together_exactly_with_this_turn(self):
        for tool, beginning in self.lives.listed:
            last = self.lives.last_of((tool, beginning))
            turns = [None, *[turn for turn in (0, 1, 2, 6, 7, 8, 9, TOP - 1, TOP) if beginning <= turn <= last]]
            for one, other in itertools.product(turns, turns):
                history = History.always(self.lives).with_turn(tool, beginning, other)
                sayings = turn_sayings(self.lives, tool, last, one)
                self.assertIs(all(true_in(history, saying) for saying in sayings), one == other)

    def test_errors(self):
        for tool in ["c", None, True, 0, *STRANGE]:
            self.refused(lambda: turn_sayings(self.lives, tool, -1, -1), NoTool, tool)
        for moment in [None, True, False, "0", *STRANGE]:
            self.refused(lambda: turn_sayings(self.lives, "a", moment, -1), BadMoment, moment)
        for turn in [7, 8, True, False, "none", "0", *STRANGE]:
            self.refused(lambda: turn_sayings(self.lives, "a", 3, turn), BadTurn, ("a", 0))
        for turn in [6, 8, True]:
            self.refused(lambda: turn_sayings(self.lives, "a", 7, turn), BadTurn, ("a", 7))

    def test_a_turn_is_possible_exactly_if_its_sayings_are_together(self):
        source = random.Random(36)
        found = []
        for _ in range(60):
            book = some_book(source, tools="ab", top=5, most=5)
            try:
                judge = Judge(book)
            except Contradicted:
                continue
            for tool, beginning in book.lives.listed:
                last = book.lives.last_of((tool, beginning))
                for turn in [None, *[turn for turn in range(beginning, min(last, 9) + 1)]]:
                    history = judge.history_with(*turn_sayings(book.lives, tool, beginning, turn))
                    self.assertIs(history is not None, turn in turns_of(judge, tool, beginning))
                    found.append(history is not None)
                    if history is not None:
                        self.assertEqual(history.turn(tool, beginning), turn)
        self.assertGreater(min(found.count(True), found.count(False)), 50)

    def test_set_by(self):
        judge = Judge(Book(SetBy("a", 5, "b"), Failed("b", 5, "b")))
        self.same(turns_of(judge, "a", 5), Turns(5, TOP, [(5, 5)]))
        self.same(turns_of(judge, "a", 4), Turns.whole(0, 4))
