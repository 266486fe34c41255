"""The conventions that hold over the whole program [2]."""

import itertools

from kit import STRANGE, TOP, Case
from soundtill.books import Book
from soundtill.chains import Chain, Reach, Step
from soundtill.desk import Desk
from soundtill.entries import Entry, outcomes, settles
from soundtill.errors import NoTool, TillError, TooMany
from soundtill.every import count, first_history, histories
from soundtill.follows import Broken, Follows, follows, needless, shown_row, thinned
from soundtill.held import alike, at_most, parting
from soundtill.histories import History
from soundtill.judge import Judge, Never, Open, Sure
from soundtill.known import changes, known_words, since
from soundtill.lists import Apart, Together, grown, shut, together
from soundtill.lives import Lives
from soundtill.lookers import Looker
from soundtill.lots import Lots
from soundtill.plans import Plan, Stall, plan, shows_plan, shows_stall, stall, worth
from soundtill.reports import report
from soundtill.rows import Agreed, Backed, Begun, Differed, Failed, Found, Passed, Served, SetBy, Trusted
from soundtill.sayings import Saying
from soundtill.texts import book_text, plan_text
from soundtill.turns import Turns, turn_sayings, turns_of

SAID = Saying("a", 3, True)


def filled():
    return Book(Found("a", 5, True), Differed("a", 3, "b", 9), Passed("b", 4, "a"), Begun("b", 7), r=("a", 4), q=("b", 8))


def made():
    """New objects of each class that has an equality, no two of them equal."""
    book = filled()
    lives = book.lives
    always, never = History.always(lives), History(lives, {life: life[1] for life in lives.listed})
    step, other = Step(SAID, Saying("a", 2, True), "time"), Step(Saying("a", 2, True), SAID, 0)
    chain, entry = Chain(step), Entry("a", 3, "b")
    return [
        SAID, Saying("a", 3, False), Saying("b", 3, True), Lives({}), Lives({"a": []}), lives, Begun("a", 3), SetBy("a", 3, "b"), Found("a", 3, True), Found("a", 3, False), Trusted("a"),
        Passed("a", 3, "b"), Failed("a", 3, "b"), Agreed("a", 3, "b", 4), Differed("a", 3, "b", 4), Served("a", 3, "b", 4), Backed("a", 3, "b", 4), Book(), book, Book(r=("a", 4)),
        always, never, step, other, chain, Chain(other), Chain(step, other), Sure(SAID, chain), Never(SAID, chain), Open(SAID, always, never), Open(SAID, never, always),
        Turns(0, 9), Turns(0, 9, [(3, 4)]), Turns.whole(0, 9), Turns.whole(0, 8), Together([SAID], always), Together((), always), Apart([SAID], 0, 0, chain), Apart([SAID], 0, 0, None),
        Lots(Judge(book)), Lots(Judge(book), x=["r"]), Lots(Judge(Book(r=("a", 4))), x=["r"]), Follows(Trusted("a"), [chain]), Follows(Trusted("a"), [None]), Broken(Trusted("a"), always),
        entry, Entry("b", 3, "a"), Plan.done(), Plan.ask(entry, Plan.done(), None), Plan.ask(entry, None, Plan.done()), Stall.end(0), Stall.end(1), Stall.of((entry, "pass", Stall.end(0))),
    ]


class Equal(Case):
    def test_each_thing_with_each(self):
        ours, twins = made(), made()
        for (at, one), (k, other) in itertools.product(enumerate(ours), enumerate(twins)):
            if at == k:
                self.same(one, other)
            else:
                self.unlike(one, other)

    def test_other_values(self):
        values = [None, True, False, 0, 1, "a 3 sound", ("a", 3), {}, [], *[value for value in STRANGE if type(value).__module__ == "builtins"]]
        for thing in made():
            for value in values:
                self.unlike(thing, value)


def calls():
    """Functions and methods with all arguments by the names that the document writes, in their order."""
    book, judge, done = filled(), Judge(filled()), Plan.done()
    other, history, entry = Book(Begun("b", 7), Found("a", 3, True)), Judge(filled()).history_with(), Entry("b", 4, "a")
    reach, looker, lots, menu, wanted = Reach(book), Looker(book), Lots(judge, x=["r"]), [entry], [Saying("b", 4, True)]
    chain = reach.shortest(SAID, Saying("b", 9, False))
    papers = []
    return [
        (Saying, {"tool": "a", "moment": 3, "is_sound": True}), (Saying.sound, {"tool": "a", "moment": 3}), (Saying.unsound, {"tool": "a", "moment": 3}), (Saying.read, {"text": "a 3 sound"}),
        (SAID.renamed, {"names": {"a": "b"}}), (SAID.is_ahead, {"other": SAID}), (Lives, {"begun": {"a": [3]}}), (book.lives.beginnings, {"tool": "b"}), (book.lives.life_of, {"tool": "b", "moment": 8}),
        (book.lives.last_of, {"life": ("b", 0)}), (Begun, {"tool": "a", "moment": 3}), (SetBy, {"tool": "a", "moment": 3, "by": "b"}), (Found, {"tool": "a", "moment": 3, "is_sound": True}),
        (Trusted, {"tool": "a"}), (Passed, {"tool": "a", "moment": 3, "by": "b"}), (Failed, {"tool": "a", "moment": 3, "by": "b"}),
        *[(kind, {"one": "a", "moment": 3, "other": "b", "later": 2}) for kind in (Agreed, Differed, Served, Backed)], (Trusted("a").pairs, {"lives": book.lives}),
        (Trusted("a").renamed, {"names": {"a": "b"}}), (book.row_of, {"number": 1}), (book.known, {"n": 2}), (book.tried, {"ask": len}), (book.renamed, {"names": {"a": "c"}}),
        (History, {"lives": Lives({"a": []}), "turns": {("a", 0): 3}}), (history.turn, {"tool": "b", "moment": 3}), (history, {"saying": SAID}), (history.is_ahead, {"other": history}),
        (history.with_turn, {"tool": "b", "moment": 3, "turn": 2}), (history.broken, {"book": book}), (history.keeps, {"book": book}), (History.always, {"lives": book.lives}),
        (History.middle, {"one": history, "two": history, "three": history}), (Step, {"one": SAID, "other": SAID, "reason": 0}), (chain, {"history": history}),
        (reach.leads, {"one": SAID, "other": ~SAID}), (reach.shortest, {"one": SAID, "other": Saying("b", 9, False)}), (judge, {"saying": SAID}), (judge.shown, {"saying": SAID}), (judge.record, {"name": "r"}),
        (Sure, {"saying": SAID, "chain": chain}), (Never, {"saying": SAID, "chain": chain}), (Open, {"saying": SAID, "yes": history, "no": history}),
        (Turns, {"first": 0, "last": 9, "stretches": [(3, 4)], "has_none": True}), (Turns.whole, {"first": 0, "last": 9}), (Turns.whole(0, 9).within, {"other": Turns(0, 9)}),
        (turns_of, {"judge": judge, "tool": "b", "moment": 3}), (turn_sayings, {"lives": book.lives, "tool": "b", "moment": 3, "turn": 4}), (count, {"judge": judge, "most": 9000}),
        (Together, {"sayings": [SAID], "history": history}), (Apart, {"sayings": [SAID], "one": 0, "other": 0, "chain": chain}), (together, {"judge": judge, "sayings": [SAID]}),
        (grown, {"judge": judge, "sayings": [SAID]}), (lots.verdict, {"name": "x"}), (lots.shown, {"name": "x"}), (Follows, {"evidence": Trusted("a"), "chains": [chain]}),
        (Broken, {"evidence": Trusted("a"), "history": history}), (follows, {"judge": judge, "row": Trusted("a")}), (shown_row, {"judge": judge, "row": Trusted("a")}),
        (needless, {"book": book}), (thinned, {"book": book}), (at_most, {"one": book, "other": other}), (alike, {"one": book, "other": other}), (parting, {"one": book, "other": book}),
        (looker.is_step, {"thing": chain[0]}), (looker.is_chain, {"thing": chain, "one": SAID, "other": Saying("b", 9, False)}), (looker.is_ring, {"thing": chain}),
        (looker.is_history, {"thing": history}), (looker, {"thing": judge.shown(SAID)}), (looker.shows_turns, {"tool": "b", "moment": 3, "thing": Turns.whole(0, 6), "papers": papers}),
        (Entry, {"tool": "a", "moment": 3, "by": "b"}), (entry.row_of, {"word": "pass"}), (entry.is_ahead, {"other": entry}), (Entry.read, {"text": "check a 3 by b"}),
        (outcomes, {"book": book, "entry": entry}), (settles, {"book": book, "entry": entry, "wanted": wanted}), (worth, {"book": book, "menu": menu, "wanted": wanted}),
        (plan, {"book": book, "menu": menu, "wanted": wanted}), (stall, {"book": book, "menu": menu, "wanted": [Saying("b", 9, True)], "most": 3}),
        (shows_plan, {"book": book, "menu": menu, "wanted": wanted, "thing": done}), (shows_stall, {"book": book, "menu": menu, "wanted": wanted, "most": 0, "thing": Stall.end(0)}),
        (Plan.ask, {"entry": entry, "passed": done, "failed": None}), (Plan.read, {"text": "done"}), (Plan.ask(entry, done, None), {"answer": lambda asked: "pass"}), (Stall.end, {"at": 3}),
        (changes, {"book": book, "saying": SAID}), (since, {"book": book, "saying": SAID}), (book_text, {"book": book}), (plan_text, {"plan": done}), (Book.read, {"text": str(book)}),
        (report, {"judge": judge}), (Desk().say, {"line": "judge x 3 sound"}), (Desk(), {"line": "show"}), (Looker(book=book, most=3).is_step, {"thing": chain[0]}),
    ]


class Arguments(Case):
    def test_by_position_and_by_name(self):
        for function, told in calls():
            by_position, by_name = function(*told.values()), function(**told)
            first = list(told)[0]
            mixed = function(told[first], **{name: told[name] for name in told if name != first})
            for answer in (by_name, mixed):
                self.assertIs(type(answer), type(by_position), told)
                self.assertEqual(answer, by_position, told)

    def test_generators_by_name(self):
        judge, book = Judge(filled()), filled()
        for found, again in ((Reach(book).reached(SAID), Reach(book).reached(one=SAID)), (histories(judge), histories(judge=judge)), (shut(judge), shut(judge=judge)),
                             (known_words(book, SAID), known_words(book=book, saying=SAID))):
            self.assertEqual(list(found), list(again))

    def test_equal_arguments_the_same_answer(self):
        for (function, told), (again, same) in zip(calls(), calls()):
            self.assertEqual(function(*told.values()), again(*same.values()), told)
        self.assertEqual(first_history(Judge(filled()), SAID), first_history(Judge(filled()), SAID))


class Untouched(Case):
    """No argument is changed, and what is done to it afterwards changes nothing; what is returned is new."""

    def test_lists_and_dicts_that_were_passed(self):
        beginnings, begun = [9, 7, 9], {}
        begun["a"] = beginnings
        lives = Lives(begun)
        turns = {life: None for life in lives.listed}
        history = History(lives, turns)
        stretches = [(5, 7), (0, 2)]
        some = Turns(0, 20, stretches)
        sayings, chains = [SAID], [None]
        listed, apart, follow = Together(sayings, history), Apart(sayings, 0, 0, None), Follows(Passed("a", 3, "a"), chains)
        records = ["r"]
        lots = Lots(Judge(filled()), x=records)
        before = [str(lives.listed), str(history), str(some), len(listed.sayings), len(apart.sayings), len(follow.chains), lots["x"]]
        self.assertEqual((beginnings, stretches, sayings, chains, records), ([9, 7, 9], [(5, 7), (0, 2)], [SAID], [None], ["r"]))
        more = {"y": records}
        lots += more
        for passed in (beginnings, stretches, sayings, chains, records):
            passed.clear()
        begun["b"] = []
        turns[("a", 0)] = 3
        more["z"] = ["q"]
        self.assertEqual([str(lives.listed), str(history), str(some), len(listed.sayings), len(apart.sayings), len(follow.chains), lots["x"]], before)
        self.assertEqual((lots["y"], lots.names, lives.tools), (("r",), ("x", "y"), ("a",)))

    def test_menus_and_wanted(self):
        book, menu, wanted = Book(Trusted("s")), [Entry("a", 9, "s"), Entry("a", 5, "s")], [Saying("a", 5, True)] * 2
        found, shown = plan(book, menu, wanted), stall(book, menu[:1], wanted, 5)
        settled = settles(book, menu[1], wanted)
        self.assertEqual((len(menu), len(wanted)), (2, 2))
        menu.clear()
        wanted.clear()
        self.assertEqual((str(found), len(shown), settled), ("check a 5 by s done done", 1, {"pass": (Saying("a", 5, True),) * 2, "fail": (Saying("a", 5, True),) * 2}))
        names = {"a": "b"}
        other = book.renamed(names)
        names["s"] = "x"
        self.assertEqual(other.tools, ("s",))

    def test_what_is_returned_is_new(self):
        book = filled()
        judge, desk = Judge(book), Desk()
        desk.run("menu check a 3 by b", "wanted a 3 sound")
        history = judge.history_with()
        for ask in (lambda: book.records, lambda: history.turns, lambda: changes(book, SAID), lambda: grown(judge, [SAID]), lambda: settles(book, Entry("a", 3, "b"), []),
                    lambda: desk.menu, lambda: desk.wanted, lambda: desk.run("show")):
            first, second = ask(), ask()
            self.assertIsNot(first, second)
            self.assertEqual(first, second)
            first.clear()
            self.assertEqual(ask(), second)
        for ask in (lambda: judge.book, lambda: desk.book, lambda: book.twin(), lambda: book.known(2)):
            first = ask()
            first += Trusted("x")
            self.assertNotIn("x", ask().tools)

    def test_no_function_changes_a_book(self):
        book = filled()
        book.today = TOP
        before = str(book), book.deeds, [number for number, row in book.rows()]
        for function, told in calls():
            if "book" in told:
                try:
                    function(**{**told, "book": book})
                except TillError:
                    pass
        judge = Judge(book)
        self.assertEqual((report(judge), count(judge, 9000) > 0), (report(Judge(filled())), True))
        for other in (filled(), Book()):
            for function in (at_most, alike, parting):
                try:
                    function(book, other)
                except TillError:
                    pass
        self.assertEqual((str(book), book.deeds, [number for number, row in book.rows()]), before)

    def test_what_tells_nothing_returns_none(self):
        book, lots = filled(), Lots(Judge(filled()), x=[])
        self.assertEqual([book.drop("r"), book.set_today(9), lots.drop("x"), book.set_today(value=None), book.drop(name="q")], [None] * 5)

    def test_generators_raise_at_their_first_item_at_the_latest(self):
        book = filled()
        for _ in range(100):
            number = book.put(Trusted("a"))
            book -= number
        self.refused(lambda: next(known_words(book, SAID)), TooMany, "deeds", 200)
        self.refused(lambda: next(Reach(book).reached(Saying("x", 3, True))), NoTool, "x")
