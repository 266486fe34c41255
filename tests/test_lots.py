"""Lots of records [16], held against all histories of small books."""

import itertools
import random

from kit import STRANGE, Case
from made import books, keeping
from soundtill.books import Book
from soundtill.errors import BadName, NoLot, NoRecord, TooMany
from soundtill.judge import Judge, Open, Sure
from soundtill.lists import Apart, Together, together
from soundtill.lots import Lots
from soundtill.rows import Differed, Found
from soundtill.sayings import Saying

NOT_NAMES = ["sound", "none", "lot", "A", "", "a" * 9, "1a", None, True, 0, *STRANGE]


class Kept(Case):
    def setUp(self):
        self.judge = Judge(Book(Differed("a", 5, "b", 5), r1=("a", 7), r2=("b", 6), r3=("b", 4)))
        self.lots = Lots(self.judge, y=["r2", "r3"], x=("r1",), z=[])

    def state(self):
        return {name: self.lots[name] for name in self.lots.names}

    def test_made(self):
        self.assertEqual(self.state(), {"x": ("r1",), "y": ("r2", "r3"), "z": ()})
        self.assertEqual((len(self.lots), self.lots.names), (3, ("x", "y", "z")))
        self.assertIs(type(self.lots["y"]), tuple)
        self.assertEqual((Lots.MOST, Lots.LONGEST, self.lots.MOST), (24, 8, 24))
        self.assertEqual((len(Lots(self.judge)), Lots(judge=self.judge).names), (0, ()))

    def test_set_and_dropped(self):
        self.lots["w"] = ("r1", "r1", "r3")
        self.lots["x"] = ["r2"]
        self.assertEqual(self.state(), {"w": ("r1", "r1", "r3"), "x": ("r2",), "y": ("r2", "r3"), "z": ()})
        self.assertEqual(self.lots.names, ("w", "x", "y", "z"))
        self.assertIs(self.lots.drop("y"), None)
        self.lots.drop(name="z")
        self.assertEqual(self.state(), {"w": ("r1", "r1", "r3"), "x": ("r2",)})

    def test_more(self):
        same = self.lots
        self.lots += {"x": ["r3"], "v": (), "u": ["r1"]}
        self.assertIs(self.lots, same)
        self.assertEqual(self.state(), {"u": ("r1",), "v": (), "x": ("r3",), "y": ("r2", "r3"), "z": ()})
        self.lots += {}
        self.assertEqual(len(self.lots), 5)

    def test_more_is_all_or_none(self):
        before = self.state()
        for more, error, fields in (
            ({"w": ["r1"], "x": [], "y": ["r9"]}, NoRecord, ["r9"]), ({"w": ["r1"], "x": [], "sound": []}, BadName, ["sound"]),
            ({"w": ["r1"], "x": ["r1"] * 9}, TooMany, ["records", 8]), ({"z": ["r8"], "w": ["r1"], "x": ["r9"]}, NoRecord, ["r9"]),
            ({"v": [], "A": [], "z": ["r9"]}, BadName, ["A"]), ({f"n{k}": [] for k in range(10, 32)}, TooMany, ["lots", 24]),
        ):
            passed = {name: list(records) for name, records in more.items()}
            self.refused(lambda: self.lots.__iadd__(more), error, *fields)
            self.assertEqual((self.state(), more), (before, passed))
            self.refused(lambda: Lots(self.judge, **{**before, **more}), error, *fields)

    def test_order_of_the_errors(self):
        full = {f"n{k}": [] for k in range(10, 31)}
        self.lots += full
        self.assertEqual(len(self.lots), 24)
        before = self.state()
        for name, records, error, fields in (
            ("sound", ["r9"] * 9, BadName, ["sound"]), ("w", ["r9"] * 9, TooMany, ["records", 8]), ("w", ("r1", "r9", None), NoRecord, ["r9"]),
            ("w", ["r1"], TooMany, ["lots", 24]), ("w", [], TooMany, ["lots", 24]), ("x", ["r1"] * 9, TooMany, ["records", 8]),
            ("x", ["r8", "r9"], NoRecord, ["r8"]),
        ):
            self.refused(lambda: self.lots.__setitem__(name, records), error, *fields)
            self.assertEqual(self.state(), before)
        self.lots["x"] = ["r1"] * 8
        self.assertEqual((self.lots["x"], len(self.lots)), (("r1",) * 8, 24))
        self.lots.drop("n20")
        self.lots["w"] = ["r1"]
        self.assertEqual(len(self.lots), 24)

    def test_any_names(self):
        for name in NOT_NAMES:
            self.refused(lambda: self.lots.__setitem__(name, []), BadName, name)
            self.refused(lambda: self.lots.__setitem__(name, ["r9"] * 9), BadName, name)

    def test_any_items(self):
        for item in ["r4", "x", "a", None, True, 0, *STRANGE]:
            self.refused(lambda: self.lots.__setitem__("w", ["r1", item, "r9"]), NoRecord, item)
            self.refused(lambda: self.lots.__setitem__("w", (item, None)), NoRecord, item)
            self.refused(lambda: Lots(self.judge, w=(item,)), NoRecord, item)
        self.assertEqual(self.lots.names, ("x", "y", "z"))

    def test_what_is_done_to_a_list_afterwards(self):
        first, second, third = ["r1"], ["r1", "r2"], {"v": ["r3"]}
        lots = Lots(self.judge, w=first)
        lots["x"] = second
        lots += third
        first.append("r2")
        second.clear()
        third["v"].append("r1")
        third["u"] = []
        self.assertEqual({name: lots[name] for name in lots.names}, {"v": ("r3",), "w": ("r1",), "x": ("r1", "r2")})

    def test_in(self):
        for name in ("x", "y", "z"):
            self.assertIs(name in self.lots, True)
        for name in ["w", "r1", None, True, 0, *STRANGE]:
            self.assertIs(name in self.lots, False)

    def test_no_lot(self):
        for name in ["w", "r1", None, True, 0, *STRANGE]:
            for ask in (lambda: self.lots[name], lambda: self.lots.drop(name), lambda: self.lots.verdict(name), lambda: self.lots.shown(name),
                        lambda: self.lots.together("x", name, "v"), lambda: self.lots.together(name)):
                self.refused(ask, NoLot, name)
        self.assertEqual(self.lots.names, ("x", "y", "z"))

    def test_not_iterated_over(self):
        with self.assertRaises(TypeError):
            list(self.lots)

    def test_equal(self):
        book = self.judge.book
        self.same(self.lots, Lots(Judge(book, ("a", 1)), z=(), x=["r1"], y=("r2", "r3")))
        other = book.twin()
        other += Found("a", 9, True)
        for lots in (Lots(self.judge, x=["r1"], y=("r2", "r3")), Lots(self.judge, z=["r1"], x=["r1"], y=("r2", "r3")),
                     Lots(self.judge, z=(), x=["r1"], y=("r3", "r2")), Lots(Judge(other), z=(), x=["r1"], y=("r2", "r3"))):
            self.unlike(self.lots, lots)
        for value in [None, True, {"x": ("r1",), "y": ("r2", "r3"), "z": ()}, ("x", "y", "z"), self.judge, book, *STRANGE]:
            self.unlike(self.lots, value)
        self.unlike(Lots(Judge(Book())), None)

    def test_the_judge_stays(self):
        before = str(self.judge.book), self.judge.told
        self.lots["w"] = ["r1", "r2"]
        self.lots.shown("w")
        list(self.lots.apart())
        self.assertEqual((str(self.judge.book), self.judge.told), before)


def some(seed):
    """Yields lots over small books with five records, and the histories that keep each book."""
    source = random.Random(seed)
    for book in itertools.chain(books(100, seed, most=3), books(60, seed + 1, tools="ab", top=4, most=3)):
        for _ in range(2):
            book += Differed(source.choice("abc"), source.randint(0, 6), source.choice("abc"), source.randint(0, 6))
        kept = keeping(book)
        if not kept:
            continue
        for name in ("p", "q", "r", "s", "t"):
            book[name] = source.choice(book.told)
        lots = {f"n{k}": source.choices(sorted(book.records), k=source.randint(0, 3)) for k in range(6)}
        yield Lots(Judge(book), **lots), lots, book, kept


class Judged(Case):
    def sound(self, book, kept, records):
        """The indexes of the histories in which all these records are sound."""
        return {at for at, history in enumerate(kept) if all(history[book[record]] for record in records)}

    def test_verdicts_and_recall(self):
        words = []
        for lots, told, book, kept in some(81):
            expected = {}
            for name, records in told.items():
                many = len(self.sound(book, kept, records))
                expected[name] = "good" if many == len(kept) else "open" if many else "bad"
                self.assertEqual(lots.verdict(name), expected[name])
            words.extend(expected.values())
            self.assertEqual(lots.recall(), tuple(name for name in sorted(told) if expected[name] != "good"))
            self.assertEqual(lots.recall(surely=False), lots.recall())
            self.assertEqual(lots.recall(surely=True), tuple(name for name in sorted(told) if expected[name] == "bad"))
        self.assertGreater(min(words.count(word) for word in ("good", "open", "bad")), 50)

    def test_shown(self):
        for lots, told, book, kept in some(83):
            judge = Judge(book)
            for name, records in told.items():
                sayings = [Saying(*book[record], True) for record in records]
                papers, word = lots.shown(name), lots.verdict(name)
                self.assertIs(type(papers), tuple)
                if word == "good":
                    self.assertEqual([type(paper) for paper in papers], [Sure] * len(records))
                    self.assertEqual(papers, tuple(judge.shown(saying) for saying in sayings))
                elif word == "bad":
                    self.assertEqual([type(paper) for paper in papers], [Apart])
                    self.same(papers[0], together(judge, sayings))
                else:
                    self.assertEqual([type(paper) for paper in papers], [Together, Open])
                    self.same(papers[0], together(judge, sayings))
                    first = next(saying for saying in sayings if judge(saying) == "open")
                    self.same(papers[1], judge.shown(first))

    def test_together_and_apart(self):
        pairs = 0
        for lots, told, book, kept in some(85):
            judge, sound = Judge(book), {name: self.sound(book, kept, records) for name, records in told.items()}
            bad = {name for name in told if not sound[name]}
            expected = [pair for pair in itertools.combinations(sorted(told), 2) if not bad & set(pair) and not sound[pair[0]] & sound[pair[1]]]
            self.assertEqual(list(lots.apart()), expected)
            pairs += len(expected)
            for names in (list(told), sorted(told)[:3], sorted(told)[2:4], ["n3", "n1", "n3"]):
                paper = lots.together(*names)
                self.same(paper, together(judge, [Saying(*book[record], True) for name in names for record in told[name]]))
                all_sound = set.intersection(*[sound[name] for name in names])
                self.assertIs(bool(paper), bool(all_sound))
                # Each lot is not bad, and each two of them are together [16].
                each_two = not bad & set(names) and not set(itertools.combinations(sorted(set(names)), 2)) & set(expected)
                self.assertIs(bool(paper), each_two)
        self.assertGreater(pairs, 20)

    def test_records_twice_and_the_empty_lot(self):
        judge = Judge(Book(Found("a", 5, True), Found("b", 5, False), r1=("a", 4), r2=("b", 5), r3=("b", 4)))
        lots = Lots(judge, w=[], x=["r1", "r1"], y=["r3", "r2", "r3"], z=["r1", "r3", "r3"])
        self.assertEqual([lots.verdict(name) for name in lots.names], ["good", "good", "bad", "open"])
        self.assertEqual([[paper.word for paper in lots.shown(name)] for name in lots.names], [[], ["sure", "sure"], ["apart"], ["together", "open"]])
        self.assertEqual((lots.shown("y")[0].one, lots.shown("y")[0].other), (1, 1))
        self.assertEqual([len(paper.sayings) for paper in (*lots.shown("y"), lots.shown("z")[0])], [3, 3])
        self.assertEqual(lots.shown("z")[1].saying, Saying("b", 4, True))
        self.assertEqual(lots.shown(name="w"), ())

    def test_together_of_no_names_and_too_many(self):
        judge = Judge(Book(r1=("a", 4), r2=("b", 5)))
        lots = Lots(judge, x=["r1"] * 8, y=[], z=["r2"])
        self.assertEqual((lots.together().sayings, lots.together("y", "y").sayings), ((), ()))
        self.assertEqual(len(lots.together("x", "y", "x").sayings), 16)
        self.assertEqual(len(lots.together(*["x"] * 25).sayings), 200)
        self.refused(lambda: lots.together(*["x"] * 25, "z"), TooMany, "sayings", 200)
        self.refused(lambda: lots.together(*["x"] * 26, "v", "u"), NoLot, "v")
        self.assertEqual(len(lots.together(*["y"] * 300, "z").sayings), 1)

    def test_apart_when_it_is_asked_for(self):
        judge = Judge(Book(Differed("a", 5, "b", 5), r1=("a", 7), r2=("b", 6)))
        lots = Lots(judge, x=["r1"], y=["r2"], z=["r2"])
        ahead = lots.apart()
        self.assertEqual(next(ahead), ("x", "y"))
        self.assertEqual(list(ahead), [("x", "z")])
        with self.assertRaises(TypeError):
            lots.recall(True)
