"""Desks: lines and their answers [20] to [23]."""

import itertools
import random

from kit import STRANGE, TOP, Case
from made import keeping, some_book, some_row
from soundtill.books import Book
from soundtill.desk import Desk
from soundtill.entries import Entry, outcomes
from soundtill.errors import NoLine, TillError
from soundtill.follows import follows
from soundtill.judge import Judge
from soundtill.known import changes
from soundtill.lists import together
from soundtill.plans import plan, worth
from soundtill.reports import report
from soundtill.rows import Found, Row, Trusted
from soundtill.sayings import Saying

# Right lines of each form, and the kinds of lines that have one form alone.
RIGHT = [
    "begun a 7", "setby a 7 b", "found a 0 sound", "found a 10 unsound", "trusted std", "passed a 3 b", "failed a 3 a", "agreed a 3 b 9", "differed a 3 b 9",
    "served a 3 b 9", "backed a 3 b 9", "take 0", f"take {TOP}", "record r a 5", "record self desk 0", "drop r", "today 9", "today 0", "today none", "book trusted a",
    "book trusted a / record r a 5", "book nonsense", "book ", "book  ", "book trusted a\nrecord r a 5", "book \n", "show", "report", "judge a 3 sound", "ask r",
    "together a 3 sound", "together a 3 sound, b 4 unsound, a 3 sound", "follows found a 3 sound", "follows begun a 3", "changes a 3 sound", "menu none",
    "menu check a 3 by b", "menu check a 3 by b, check a 3 by b, check b 3 by b, check c 3 by b, check d 3 by b", "wanted none", "wanted a 3 sound",
    "wanted a 3 sound, a 3 sound", "outcomes check a 3 by b", "worth", "plan",
]


def filled():
    """A desk at which something of each kind is kept."""
    desk = Desk()
    desk.run("trusted s", "found a 5 sound", "begun b 7", "record r a 4", "menu check c 5 by s, check c 2 by s", "wanted c 5 sound", "today 20")
    return desk


def state(desk):
    """All that a desk keeps."""
    book = desk.book
    history = [str(book.known(n)) for n in range(book.deeds + 1)]
    return [str(book), book.deeds, history, [str(entry) for entry in desk.menu], [str(saying) for saying in desk.wanted], [number for number, row in book.rows()]]


class Kept(Case):
    def test_empty_at_first(self):
        desk = Desk()
        self.assertEqual((desk.book == Book(), desk.book.deeds, desk.book.today, desk.menu, desk.wanted), (True, 0, None, [], []))
        self.assertEqual(desk.run("show", "report", "worth", "plan", "take 0"), ["empty", "sound 0, unsound 0, open 0", "0", "done", "refused NoRow"])

    def test_new_ones_each_time(self):
        desk = filled()
        before = state(desk)
        book, menu, wanted = desk.book, desk.menu, desk.wanted
        self.assertEqual([type(book), type(menu), type(wanted)], [Book, list, list])
        book += Trusted("x")
        book["q"] = ("a", 3)
        book.today = None
        menu.clear()
        wanted.append(3)
        self.assertEqual(state(desk), before)
        self.assertIsNot(desk.book, desk.book)
        self.assertIsNot(desk.menu, desk.menu)
        self.assertIsNot(desk.wanted, desk.wanted)
        self.assertEqual((desk.book.deeds, desk.book.today), (4, 20))
        kept = desk.book
        desk.say("take 0")
        self.assertEqual((len(kept), len(desk.book)), (3, 2))

    def test_say_and_call_and_run(self):
        for line in RIGHT:
            one, other, third = filled(), filled(), filled()
            answer = one.say(line)
            self.assertIs(type(answer), str)
            self.assertNotIn("\n", answer)
            self.assertEqual((other(line), third.run(line)), (answer, [answer]))
            self.assertEqual((state(other), state(third)), (state(one), state(one)))
            self.assertEqual((filled().say(line=line), filled()(line=line)), (answer, answer))
        self.assertEqual(filled().run(), [])
        self.assertEqual(filled().run(*RIGHT), self.one_by_one(RIGHT))

    def one_by_one(self, lines):
        desk = filled()
        return [desk.say(line) for line in lines]


class Lines(Case):
    def test_rows(self):
        desk, number = Desk(), 0
        for line in RIGHT[:11]:
            self.assertEqual(desk.say(line), f"row {number}")
            self.same(desk.book.row_of(number), Row.read(line))
            number += 1
        self.assertEqual(desk.run("take 10", "trusted x"), ["ok", "row 11"])

    def test_deeds(self):
        desk = Desk()
        self.assertEqual(desk.run("trusted a", "take 0", "take 0", "take 1", f"take {TOP}"), ["row 0", "ok", "refused NoRow", "refused NoRow", "refused NoRow"])
        self.assertEqual(desk.run("record r a 5", "record r b 6", "record q a 5", "drop r", "drop r", "drop x"), ["ok", "ok", "ok", "ok", "refused NoRecord", "refused NoRecord"])
        self.assertEqual((desk.book.records, desk.book.deeds), ({"q": ("a", 5)}, 6))
        self.assertEqual(desk.run("today 5", "today 4", "record r a 6", "found b 6 sound", "begun c 5", "today none", "found b 6 sound", "today 5", f"today {TOP}"),
                         ["ok", "refused Later", "refused Later", "refused Later", "row 1", "ok", "row 2", "refused Later", "ok"])
        self.assertEqual((desk.book.today, desk.book.deeds), (TOP, 8))

    def test_book(self):
        desk = filled()
        self.assertEqual(desk.say("book found a 5 unsound / record r a 4 / today 30"), "ok")
        self.assertEqual((str(desk.book), desk.book.deeds, desk.book.today), ("found a 5 unsound\nrecord r a 4\ntoday 30", 2, 30))
        self.assertEqual(([str(entry) for entry in desk.menu], [str(saying) for saying in desk.wanted]), (["check c 5 by s", "check c 2 by s"], ["c 5 sound"]))
        self.assertEqual(desk.say("book trusted a\nrecord r b 4 / today 9"), "ok")
        self.assertEqual(str(desk.book), "trusted a\nrecord r b 4\ntoday 9")
        before = state(desk)
        for text in ("", " ", "nonsense", "trusted A", "trusted a / ", " / trusted a", "trusted a /  / trusted b", "trusted a/trusted b", "record r a 4 / trusted a", "trusted a\n",
                     "trusted a / today none", "empty / empty", "trusted a  /  trusted b", "trusted a /", "/"):
            self.assertEqual(desk.say("book " + text), "refused BadText", text)
        self.assertEqual(desk.say("book found a 5 sound / today 3"), "refused Later")
        self.assertEqual(desk.say("book " + " / ".join(["trusted a"] * 81)), "refused TooMany")
        self.assertEqual(state(desk), before)
        self.assertEqual(desk.run("book empty", "show"), ["ok", "empty"])

    def test_show_and_report(self):
        desk = filled()
        self.assertEqual(desk.say("show"), "trusted s / found a 5 sound / begun b 7 / record r a 4 / today 20")
        self.assertEqual(desk.say("report"), "r        a                                      4 sound / sound 1, unsound 0, open 0")
        self.assertEqual(desk.run("today none", "take 1", "drop r", "take 0", "take 2", "show"), ["ok"] * 5 + ["empty"])

    def test_judging(self):
        desk = Desk()
        desk.run("trusted s", "failed a 10 s", "record r a 11", "record q a 3", "record p s 3", "differed b 3 c 3")
        self.assertEqual([desk.say(f"judge {text}") for text in ("a 10 sound", "a 10 unsound", "a 9 sound", f"s {TOP} sound", "x 3 sound")],
                         ["never", "sure", "open", "sure", "refused NoTool"])
        self.assertEqual([desk.say(f"ask {name}") for name in ("r", "q", "p", "x")], ["unsound", "open", "sound", "refused NoRecord"])
        for text, answer in (("a 3 sound", "yes"), ("a 3 sound, b 3 sound", "yes"), ("a 3 sound, b 3 sound, c 2 sound, c 3 sound", "no 1 3"), ("b 9 sound, a 3 sound, a 10 sound", "no 2 2"),
                             ("b 3 sound, b 3 unsound", "no 0 1"), ("b 3 unsound, c 9 unsound", "yes"), ("x 3 sound, a 10 sound", "refused NoTool")):
            self.assertEqual(desk.say(f"together {text}"), answer)
        for text, answer in (("found a 12 unsound", "yes"), ("found a 9 unsound", "no"), ("differed c 4 b 5", "yes"), ("differed c 2 b 5", "no"), ("passed a 3 a", "yes"), ("begun a 3", "refused NoEvidence"),
                             ("setby a 3 s", "refused NoEvidence"), ("trusted x", "refused NoTool"), ("setby x 3 s", "refused NoEvidence")):
            self.assertEqual(desk.say(f"follows {text}"), answer)

    def test_changes(self):
        desk = Desk()
        self.assertEqual(desk.say("changes a 5 sound"), "0 open")
        desk.run("found a 10 sound", "record r a 5", "begun a 7", "take 1", "found a 4 unsound")
        self.assertEqual(desk.say("changes a 5 sound"), "0 open, 1 sure, 3 open, 4 sure, 5 contradicted")
        self.assertEqual(desk.say("changes x 5 sound"), "0 open, 5 contradicted")
        desk.say("book " + str(Book(Found("a", 10, True), r=("a", 5))).replace("\n", " / "))
        self.assertEqual(desk.say("changes a 5 unsound"), "0 open, 1 never")

    def test_too_many_deeds(self):
        desk = Desk()
        desk.run(*["trusted a", "take 0", "trusted a", "take 1"] + [line for k in range(2, 100) for line in ("trusted a", f"take {k}")])
        self.assertEqual((desk.book.deeds, desk.say("changes b 3 sound")), (200, "0 open"))
        self.assertEqual(desk.run("trusted a", "changes b 3 sound"), ["row 100", "refused TooMany"])

    def test_menus_and_wanted(self):
        desk = Desk()
        self.assertEqual(desk.run("trusted s", "menu check a 9 by s, check a 5 by s", "wanted a 5 sound", "outcomes check a 5 by s", "worth", "plan"),
                         ["row 0", "ok", "ok", "pass fail", "1", "check a 5 by s done done"])
        self.assertEqual(([str(entry) for entry in desk.menu], [str(saying) for saying in desk.wanted]), (["check a 9 by s", "check a 5 by s"], ["a 5 sound"]))
        self.assertEqual(desk.run("found a 6 sound", "outcomes check a 5 by s", "worth", "plan", "wanted b 3 sound, a 5 sound, b 3 sound", "worth", "plan"),
                         ["row 1", "pass", "0", "done", "ok", "none", "none"])
        self.assertEqual(len(desk.wanted), 3)
        self.assertEqual(desk.run("menu none", "wanted none", "worth", "plan"), ["ok", "ok", "0", "done"])
        self.assertEqual((desk.menu, desk.wanted), ([], []))

    def test_menus_that_worth_and_plan_refuse(self):
        desk = Desk()
        desk.run("trusted s", "wanted a 5 sound")
        for menu, answer in (("check a 5 by s, check b 5 by s, check a 5 by s", "refused BadEntry"),
                             ("check a 5 by s, check b 5 by s, check c 5 by s, check d 5 by s, check e 5 by s", "refused TooMany"),
                             ("check a 5 by s, check b 5 by s, check c 5 by s, check d 5 by s, check e 5 by s, check a 5 by s", "refused BadEntry")):
            self.assertEqual(desk.run("menu " + menu, "worth", "plan"), ["ok", answer, answer])
            self.assertEqual(", ".join(str(entry) for entry in desk.menu), menu)
        desk.run("menu none", "wanted " + ", ".join(f"a {k} sound" for k in range(61)))
        self.assertEqual((len(desk.wanted), desk.run("worth", "plan")), (61, ["refused TooMany"] * 2))
        desk.run("wanted " + ", ".join(f"a {k} sound" for k in range(250)))
        self.assertEqual((len(desk.wanted), desk.say("together " + ", ".join(["s 3 sound"] * 200))), (250, "yes"))
        self.assertEqual(desk.say("together " + ", ".join(["s 3 sound"] * 201)), "refused TooMany")


class Refused(Case):
    def test_contradicted_first(self):
        desk = Desk()
        desk.run("found a 5 sound", "found a 5 unsound", "record r a 5", "menu check b 3 by a", "wanted b 3 sound")
        before = state(desk)
        for line in ("judge a 3 sound", "judge x 3 sound", "ask r", "ask x", "report", "together a 3 sound", "together x 3 sound", "together " + ", ".join(["x 3 sound"] * 201),
                     "follows found a 3 sound", "follows found x 3 sound", "follows begun a 3", "outcomes check b 3 by a", "worth", "plan"):
            self.assertEqual(desk.say(line), "refused Contradicted", line)
        self.assertEqual(state(desk), before)
        self.assertEqual(desk.run("show", "changes a 3 sound", "take 1", "report"),
                         ["found a 5 sound / found a 5 unsound / record r a 5", "0 open, 1 sure, 2 contradicted", "ok", "r        a                                      5 sound / sound 1, unsound 0, open 0"])

    def test_nothing_is_changed(self):
        desk = filled()
        before = state(desk)
        for line, name in (("found a 21 sound", "Later"), ("record x a 21", "Later"), ("record r a 21", "Later"), ("today 6", "Later"), ("take 7", "NoRow"), ("drop x", "NoRecord"),
                           ("ask x", "NoRecord"), ("judge x 3 sound", "NoTool"), ("together x 3 sound", "NoTool"), ("follows trusted x", "NoTool"), ("follows begun a 3", "NoEvidence"),
                           ("outcomes check a 21 by s", "Later"), ("book x", "BadText"), ("book found a 5 sound / today 3", "Later"), ("take 3", "NoRow")):
            self.assertEqual(desk.say(line), f"refused {name}", line)
            self.assertEqual(state(desk), before)

    def test_too_many(self):
        desk = Desk()
        desk.run(*[f"trusted t{k}" for k in range(12)])
        self.assertEqual(desk.run("trusted x", "record r x 3", "outcomes check x 3 by t1", "record r t1 3", "record r x 3"), ["refused TooMany"] * 3 + ["ok", "refused TooMany"])
        desk.run(*["trusted t1"] * 68)
        self.assertEqual(desk.run("trusted t1", "outcomes check t1 3 by t2", "take 5", "trusted t5"), ["refused TooMany", "refused TooMany", "ok", "row 80"])
        desk.run(*[f"record q{k} t1 {k}" for k in range(59)])
        self.assertEqual(desk.run("record x t1 3", "record r t2 9", "drop q0", "record x t1 3"), ["refused TooMany", "ok", "ok", "ok"])

    def test_each_error_by_its_own_name(self):
        names = set()
        desk = filled()
        for line in RIGHT + ["judge x 3 sound", "ask x", "take 77", "menu check a 3 by b, check a 3 by b", "worth", "found a 30 sound", "today 30", "found a 0 unsound", "judge a 3 sound"]:
            answer = desk.say(line)
            if answer.startswith("refused "):
                names.add(answer.split(" ")[1])
        self.assertLessEqual({"NoTool", "NoRecord", "NoRow", "BadEntry", "BadText", "Contradicted", "Later"}, names)
        self.assertLessEqual(names, {kind.__name__ for kind in TillError.__subclasses__()})


class NoLines(Case):
    def wrong(self, line):
        desk = filled()
        before = state(desk)
        self.refused(lambda: desk.say(line), NoLine)
        self.refused(lambda: desk(line), NoLine)
        self.assertEqual(state(desk), before)

    def test_blanks(self):
        for line in RIGHT:
            if line.startswith("book"):
                self.wrong(" " + line)
                continue
            for other in (" " + line, line + " ", line + "\n", "\n" + line, line + "\t", line.upper(), line.capitalize(), line + ",", line + ", "):
                self.wrong(other)
            for at, sign in enumerate(line):
                if sign == " ":
                    self.wrong(line[:at] + " " + line[at:])
                    self.wrong(line[:at] + "\n" + line[at + 1:])
                    self.wrong(line[:at] + line[at + 1:])
                if sign == ",":
                    self.wrong(line[:at + 1] + line[at + 2:])
                    self.wrong(line[:at] + line[at + 1:])
                    self.wrong(line[:at] + " " + line[at:])

    def test_words_more_or_less(self):
        for line in RIGHT:
            if line.startswith("book"):
                continue
            words = line.split(" ")
            for at in range(len(words) + 1):
                for word in ("", "x", "3", "none", "sound", "/"):
                    self.wrong(" ".join([*words[:at], word, *words[at:]]))
            for at in range(len(words)):
                # Without its first word a line of "follows" is the text of a row.
                if (words[0], at) != ("follows", 0):
                    self.wrong(" ".join([*words[:at], *words[at + 1:]]))

    def test_wrong_words(self):
        for line in RIGHT:
            words = line.split(" ")
            if words[0] == "book":
                continue
            for at, word in enumerate(words):
                for other in ("", "A", "lot", "03", "-1", str(TOP + 1), "1" * 32, "x" * 9, "a;", ", "):
                    self.wrong(" ".join([*words[:at], other, *words[at + 1:]]))

    def test_by_hand(self):
        for line in ("", " ", "\n", "none", "book", "Book trusted a", "books trusted a", "book\ntrusted a", "row 3", "take", "take -1", "take 03", "take a", "take 3 4", "take none",
                     "record r a", "record r a 05", "record R a 5", "record none a 5", "record r open 5", "record r a 5 6", "drop", "drop R", "drop found", "drop r q", "today", "today -1",
                     "today None", "today none none", "today 5 6", "today none 5", "begun a 0", "setby a 0 b", "found a 3", "trusted sure", "show x", "report r", "show ", "judge", "judge ",
                     "judge a", "judge a 3", "judge a 3 sure", "judge a 3 sound b", "judge a 3 sound, a 4 sound", "ask", "ask R", "ask r q", "together", "together ", "together none",
                     "together a 3 sound,a 4 sound", "together a 3 sound , a 4 sound", "together a 3 sound, ", "together , a 3 sound", "together a 3 sound, none", "together none, none",
                     "follows", "follows ", "follows x", "follows check a 3 by b", "follows found a 3 sound, found a 4 sound", "follows none", "changes", "changes a 3", "changes r",
                     "menu", "menu ", "menu check a 3 by b, none", "menu none, check a 3 by b", "menu none, none", "menu none ", "menu a 3 sound", "menu check a 3 by b,check a 4 by b",
                     "menu check a 3 by b\ncheck a 4 by b", "menu check a 3 by b\n", "menu check a 3 by", "menu done", "wanted", "wanted ", "wanted none, a 3 sound", "wanted a 3 sound, none",
                     "wanted check a 3 by b", "wanted a 3", "outcomes", "outcomes none", "outcomes check a 3 by b, check a 4 by b", "outcomes check a 3 by b\n", "outcomes passed a 3 b",
                     "worth 3", "worth none", "plan done", "plan none", "worth ", "plan\n", "check a 3 by b", "done", "a 3 sound", "refused NoRow", "ok", "empty", "lot r", "say show"):
            self.wrong(line)

    def test_any_values(self):
        for value in [None, True, 0, Desk(), Trusted("a"), Book(), *STRANGE, ["show"], ("show",)]:
            self.wrong(value)

    def test_run_with_one_that_is_none(self):
        lines = ["trusted x", "take 0", "book empty", "menu none", "today none"]
        for wrong in ("", "trusted X", "take 0 ", None, 3, ["trusted y"], "worth none"):
            for at in range(len(lines) + 1):
                desk = filled()
                before = state(desk)
                self.refused(lambda: desk.run(*lines[:at], wrong, *lines[at:]), NoLine)
                self.assertEqual(state(desk), before)
        desk = filled()
        self.refused(lambda: desk.run("take 77", "", "take 78"), NoLine)
        self.assertEqual(desk.run("take 77", "trusted x", "take 78"), ["refused NoRow", "row 3", "refused NoRow"])


class AgainstFunctions(Case):
    def some_lines(self, source):
        for _ in range(source.randint(1, 12)):
            yield source.choice([str(some_row(source, "abs", 5)), f"take {source.randint(0, 6)}", f"record r{source.randint(0, 2)} {source.choice('abs')} {source.randint(0, 6)}",
                                 f"drop r{source.randint(0, 2)}", f"today {source.randint(3, 9)}", "today none", "trusted s"])

    def said_or_refused(self, call):
        try:
            return call()
        except TillError as error:
            return f"refused {type(error).__name__}"

    def test_answers(self):
        source, seen = random.Random(421), []
        for _ in range(150):
            desk, book = Desk(), Book()
            told = ["trusted s", "failed a 4 s", "record r0 a 5", "record r1 b 2", "found b 3 sound"]
            for line in [*source.sample(told, source.randint(0, 5)), *self.some_lines(source)]:
                self.assertEqual(desk.say(line), self.said_or_refused(lambda: self.done(book, line.split(" "))), line)
            self.assertEqual(state(desk)[:3], [str(book), book.deeds, [str(book.known(n)) for n in range(book.deeds + 1)]])
            for line, call in self.asked(book, source):
                answer = desk.say(line)
                self.assertEqual(answer, self.said_or_refused(call), line)
                seen.append(answer.split(" ")[0])
        for word in ("sure", "never", "open", "yes", "no", "sound", "unsound", "refused", "pass"):
            self.assertIn(word, seen)

    def done(self, book, words):
        """Does by hand what a line tells of a book."""
        if words[0] == "take":
            book -= int(words[1])
        elif words[0] == "record":
            book[words[1]] = (words[2], int(words[3]))
        elif words[0] == "drop":
            book.drop(words[1])
        elif words[0] == "today":
            book.today = None if words[1] == "none" else int(words[1])
        else:
            return f"row {book.put(Row.read(' '.join(words)))}"
        return "ok"

    def asked(self, book, source):
        """Yields lines that ask, each with a call that tells the answer by the functions."""
        sayings = [Saying(source.choice("absx"), source.randint(0, 6), source.random() < 0.5) for _ in range(3)]
        row, entry = some_row(source, "abs", 5), Entry(source.choice("abc"), source.randint(0, 5), source.choice("abs"))
        saying, name = sayings[0], f"r{source.randint(0, 2)}"
        yield f"judge {saying}", lambda: Judge(book)(saying)
        yield f"ask {name}", lambda: Judge(book).record(name)
        yield "report", lambda: report(Judge(book)).replace("\n", " / ")
        yield "show", lambda: str(book).replace("\n", " / ")
        yield "together " + ", ".join(map(str, sayings)), lambda: self.told(together(Judge(book), sayings))
        yield f"follows {row}", lambda: "yes" if follows(Judge(book), row) else "no"
        yield f"changes {saying}", lambda: ", ".join(f"{n} {word}" for n, word in changes(book, saying))
        yield f"outcomes {entry}", lambda: " ".join(outcomes(book, entry))

    def told(self, paper):
        return "yes" if paper else f"no {paper.one} {paper.other}"

    def test_worth_and_plan(self):
        source, seen = random.Random(422), []
        for _ in range(60):
            book = some_book(source, tools="abs", top=4, most=3) | Book(Trusted("s"))
            menu = [Entry(source.choice("abc"), source.randint(0, 4), source.choice("ssab")) for _ in range(source.randint(0, 3))]
            wanted = [Saying(source.choice("abc"), source.randint(0, 4), True) for _ in range(source.randint(0, 2))]
            desk = Desk()
            desk.run("book " + str(book).replace("\n", " / "), "menu " + (", ".join(map(str, menu)) or "none"), "wanted " + (", ".join(map(str, wanted)) or "none"))
            for line, function in (("worth", worth), ("plan", plan)):
                found = self.said_or_refused(lambda: function(book, menu, wanted))
                self.assertEqual(desk.say(line), "none" if found is None else str(found))
                seen.append(desk.say(line).split(" ")[0])
        for word in ("0", "1", "none", "done", "check", "refused"):
            self.assertIn(word, seen)


class Whole(Case):
    def test_the_text_of_another_desks_book(self):
        source = random.Random(423)
        for _ in range(80):
            book = some_book(source, tools="abs", top=5)
            desk, other, third = Desk(), Desk(), Desk()
            for number, row in book.rows():
                desk.say(str(row))
            for name, (tool, moment) in book.records.items():
                desk.say(f"record {name} {tool} {moment}")
            lines = ["menu check a 3 by s, check b 2 by a", "wanted a 3 sound, b 1 sound"]
            self.assertEqual(other.say("book " + desk.say("show")), "ok")
            shuffled = [str(row) for number, row in book.rows()]
            source.shuffle(shuffled)
            records = [f"record {name} {tool} {moment}" for name, (tool, moment) in book.records.items()]
            self.assertEqual(third.say("book " + (" / ".join(shuffled + records) or "empty")), "ok")
            asked = ["report", "worth", "plan", "outcomes check a 3 by s", *[f"ask r{k}" for k in range(3)]]
            asked += [f"judge {tool} {moment} {word}" for tool, moment, word in itertools.product("abs", (0, 2, 5), ("sound", "unsound"))]
            asked += [f"follows {some_row(source, 'abs', 5)}" for _ in range(5)]
            asked += ["together " + ", ".join(f"{source.choice('abs')} {source.randint(0, 5)} {source.choice(('sound', 'unsound'))}" for _ in range(3)) for _ in range(5)]
            answers = desk.run(*lines, *asked)
            self.assertEqual(other.run(*lines, *asked), answers)
            self.assertEqual(third.run(*lines, *asked), answers)
            self.assertEqual(other.say("show"), desk.say("show"))

    def test_lines_go_with_one_another(self):
        source, count = random.Random(424), 0
        for _ in range(80):
            book = some_book(source, tools="abs", top=5)
            if not keeping(book):
                continue
            desk = Desk()
            desk.say("book " + str(book).replace("\n", " / "))
            words = {"sure": "sound", "never": "unsound", "open": "open"}
            for name, (tool, moment) in book.records.items():
                self.assertEqual(desk.say(f"ask {name}"), words[desk.say(f"judge {tool} {moment} sound")])
                self.assertIn(f" {desk.say(f'ask {name}')} /", desk.say("report"))
            for tool, moment in itertools.product(book.tools, range(0, 8, 2)):
                yes, no = desk.say(f"judge {tool} {moment} sound"), desk.say(f"judge {tool} {moment} unsound")
                self.assertEqual((yes == "sure", yes == "never"), (no == "never", no == "sure"))
                self.assertEqual(desk.say(f"follows found {tool} {moment} sound"), "yes" if yes == "sure" else "no")
                self.assertEqual(desk.say(f"follows found {tool} {moment} unsound"), "yes" if yes == "never" else "no")
                self.assertEqual(desk.say(f"together {tool} {moment} sound"), "no 0 0" if yes == "never" else "yes")
                self.assertEqual(desk.say(f"changes {tool} {moment} sound").split(" ")[-1], yes)
                count += 1
            for one, other in itertools.product(book.tools, repeat=2):
                together_or_not = desk.say(f"together {one} 3 sound, {other} 4 sound")
                self.assertEqual(desk.say(f"follows differed {one} 3 {other} 4") == "yes", together_or_not != "yes")
        self.assertGreater(count, 200)
