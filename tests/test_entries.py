"""Entries, their outcomes and what these settle [19] [20] [23]."""

import itertools
import random

from kit import STRANGE, TOP, Case
from made import books, keeping
from planned import Search
from soundtill.books import Book
from soundtill.entries import Entry, outcomes, settles
from soundtill.errors import BadEntry, BadMoment, BadName, BadText, Contradicted, Later, TooMany
from soundtill.judge import Judge
from soundtill.lives import Lives
from soundtill.rows import Agreed, Begun, Failed, Found, Passed, Trusted
from soundtill.sayings import Saying


class Made(Case):
    def test_its_parts(self):
        for tool, moment, by in (("a", 0, "b"), ("std", TOP, "std"), ("x1234567", 7, "check"), ("by", 10 ** 29, "pass")):
            for entry in (Entry(tool, moment, by), Entry(tool=tool, moment=moment, by=by), Entry(tool, by=by, moment=moment)):
                self.assertEqual((entry.tool, entry.moment, entry.by), (tool, moment, by))
                self.assertEqual(str(entry), f"check {tool} {moment} by {by}")
                self.same(entry.passed, Passed(tool, moment, by))
                self.same(entry.failed, Failed(tool, moment, by))
                self.same(Entry.read(str(entry)), entry)

    def test_errors_in_their_order(self):
        names, moments = [None, True, 0, "open", "menu", *STRANGE], [None, True, False, "3", *STRANGE]
        for tool in names:
            self.refused(lambda: Entry(tool, 3, "b"), BadName, tool)
            self.refused(lambda: Entry(tool, -1, "b"), BadName, tool)
            self.refused(lambda: Entry(tool, 3, "B"), BadName, tool)
            self.refused(lambda: Entry(tool, None, None), BadName, tool)
        for moment in moments:
            self.refused(lambda: Entry("a", moment, "b"), BadMoment, moment)
            self.refused(lambda: Entry("a", moment, "none"), BadMoment, moment)
        for by in names:
            self.refused(lambda: Entry("a", 3, by), BadName, by)

    def test_row_of(self):
        entry = Entry("a", 3, "b")
        self.same(entry.row_of("pass"), Passed("a", 3, "b"))
        self.same(entry.row_of(word="fail"), Failed("a", 3, "b"))
        for word in [None, True, 0, "passed", "failed", "Pass", "pass ", entry, *STRANGE]:
            self.refused(lambda: entry.row_of(word), BadEntry, word)

    def test_equal(self):
        entry = Entry("a", 3, "b")
        self.same(entry, Entry("a", 3, "b"))
        for other in (Entry("c", 3, "b"), Entry("a", 4, "b"), Entry("a", 3, "c"), Entry("b", 3, "a"), Passed("a", 3, "b"), Failed("a", 3, "b"), str(entry),
                      ("a", 3, "b"), None, True, *STRANGE):
            self.unlike(entry, other)

    def test_is_ahead(self):
        entries = [Entry(tool, moment, by) for tool in ("a", "a1", "b") for moment in (0, 2, 10, TOP) for by in ("a", "b", "b0", "c")]
        for (at, one), (k, other) in itertools.product(enumerate(entries), enumerate(entries)):
            self.assertIs(one.is_ahead(other), at < k)
        self.assertIs(entries[0].is_ahead(other=entries[1]), True)


class Read(Case):
    def wrong(self, text, line, word):
        self.refused(lambda: Entry.read(text), BadText, line, word)

    def test_each_word_otherwise(self):
        right = ["check", "a", "3", "by", "b"]
        self.same(Entry.read(text=" ".join(right)), Entry("a", 3, "b"))
        for at in range(5):
            for word in ("", "A", "sure", "03", "record", "by\t", "-1", str(TOP + 1), "1" * 32, "x" * 9, " b"):
                self.wrong(" ".join([*right[:at], word, *right[at + 1:]]), 0, at)
            self.wrong(" ".join(right[:at]), 0, at)
            self.wrong(" ".join([*right[:at], *right[at + 1:]]), 0, at)
            self.wrong(" ".join([*right[:at], "", *right[at:]]), 0, at)
            self.wrong("\n".join([" ".join(right[:at]), " ".join(right[at:])]), 0, at)
        for moment in ("0", str(TOP), "9" * 30):
            self.assertEqual(Entry.read(f"check a {moment} by b").moment, int(moment))
        for moment in ("00", "+3", "3.0", "1_0", "a", str(TOP * 10), "9" * 31):
            self.wrong(f"check a {moment} by b", 0, 2)

    def test_too_many_words_and_lines(self):
        for text, line, word in (("check a 3 by b c", 0, 5), ("check a 3 by b ", 0, 5), (" check a 3 by b", 0, 0), ("check a 3 by b\n", 1, 0),
                                 ("check a 3 by b\ncheck a 3 by b", 1, 0), ("check a 3 by b c\n", 0, 5), ("check a 3 by\n", 0, 4), ("", 0, 0), ("\n", 0, 0),
                                 ("\ncheck a 3 by b", 0, 0), ("check a 3\nby b", 0, 3), ("check a 3 by b\n\n", 1, 0), ("check  a 3 by b", 0, 1),
                                 ("check check 3 by by", 0, 5), ("done", 0, 0), ("none", 0, 0), ("passed a 3 b", 0, 0)):
            if text == "check check 3 by by":
                self.same(Entry.read(text), Entry("check", 3, "by"))
            else:
                self.wrong(text, line, word)

    def test_no_string(self):
        for value in [None, True, 0, Entry("a", 3, "b"), *[value for value in STRANGE if not isinstance(value, str)]]:
            self.wrong(value, 0, 0)


def some_entry(source, tools, top=6):
    return Entry(source.choice(tools), source.randint(0, top), source.choice(tools))


def some_saying(source, tools, top=6):
    return Saying(source.choice(tools), source.randint(0, top), source.random() < 0.5)


class Outcomes(Case):
    def test_against_all_plain_histories(self):
        source, seen = random.Random(351), []
        for book in itertools.chain(books(150, 352, most=5), books(100, 353, tools="ab", top=3, most=6)):
            if not keeping(book):
                continue
            tools = [*book.tools, "d"]
            for _ in range(4):
                entry, wanted = some_entry(source, tools), [some_saying(source, tools) for _ in range(source.randint(0, 4))]
                search = Search(book, [entry], wanted)
                possible = search.possible(search.start, 0)
                text, deeds = str(book), book.deeds
                self.assertEqual(outcomes(book, entry), tuple(possible))
                self.assertGreater(len(possible), 0)
                opened = search.unsettled(search.start)
                expected = {word: tuple(wanted[at] for at in opened if search.is_settled((word,), at)) for word in possible}
                for told in (wanted, tuple(wanted)):
                    self.assertEqual(settles(book, entry, told), expected)
                self.assertEqual((str(book), book.deeds), (text, deeds))
                seen.append((len(possible), any(expected.values())))
        # If one outcome alone is possible, its row follows already.
        for case in ((1, False), (2, True), (2, False)):
            self.assertGreater(seen.count(case), 20)
        self.assertEqual(seen.count((1, True)), 0)

    def test_by_itself(self):
        for book, expected in ((Book(), ("pass", "fail")), (Book(Found("a", 5, True)), ("pass",)), (Book(Found("a", 5, False)), ("pass", "fail")),
                               (Book(Trusted("a")), ("pass",)), (Book(Begun("a", 6), Trusted("a")), ("pass",)), (Book(Found("a", 9, True), Begun("a", 6)), ("pass", "fail"))):
            self.assertEqual(outcomes(book, Entry("a", 5, "a")), expected)
        self.assertEqual(settles(Book(), Entry("a", 5, "a"), [Saying("a", 5, True), Saying("a", 4, True)]), {"pass": (), "fail": (Saying("a", 5, True),)})

    def test_by_name_and_new_each_time(self):
        book, entry, wanted = Book(Trusted("s")), Entry("a", 9, "s"), [Saying("a", 5, True)]
        self.assertEqual(outcomes(book=book, entry=entry), ("pass", "fail"))
        first, second = settles(book, entry, wanted), settles(book=book, entry=entry, wanted=wanted)
        self.assertIs(type(first), dict)
        self.assertIsNot(first, second)
        self.assertIs(type(first["pass"]), tuple)
        first.clear()
        self.assertEqual(settles(book, entry, wanted), second)
        self.assertEqual(wanted, [Saying("a", 5, True)])

    def test_order_and_sayings_twice(self):
        book, entry = Book(Trusted("s"), Found("b", 4, False)), Entry("a", 5, "s")
        a5, a4, a6, not_a4, b7, x = [Saying.read(text) for text in ("a 5 sound", "a 4 sound", "a 6 unsound", "a 4 unsound", "b 7 unsound", "x 3 sound")]
        wanted = [a6, a4, b7, a5, a4, x, not_a4, a5]
        self.assertEqual(settles(book, entry, wanted), {"pass": (a4, a5, a4, not_a4, a5), "fail": (a6, a5, a5)})
        self.assertEqual(settles(book, entry, ()), {"pass": (), "fail": ()})
        self.assertEqual(settles(book, entry, [b7, x]), {"pass": (), "fail": ()})

    def test_tools_that_the_book_does_not_name(self):
        # By a tool of which nothing is told, each outcome leaves the other tool open.
        for book in (Book(), Book(Trusted("x"))):
            self.assertEqual(settles(book, Entry("a", 5, "b"), [Saying("a", 5, True), Saying("b", 5, True), Saying("c", 5, True)]), {"pass": (), "fail": ()})
        self.assertEqual(settles(Book(Trusted("b")), Entry("a", 5, "b"), [Saying("a", 5, True), Saying("c", 5, True)]),
                         {"pass": (Saying("a", 5, True),), "fail": (Saying("a", 5, True),)})


class Errors(Case):
    def refused_both(self, book, entry, error, *fields):
        text, deeds = str(book), book.deeds
        self.refused(lambda: outcomes(book, entry), error, *fields)
        for wanted in ((), [Saying("a", 3, True)]):
            self.refused(lambda: settles(book, entry, wanted), error, *fields)
        self.assertEqual((str(book), book.deeds), (text, deeds))

    def test_contradicted(self):
        source, count = random.Random(354), 0
        for book in books(120, 355, most=9):
            if keeping(book):
                continue
            try:
                Judge(book)
            except Contradicted as error:
                self.refused_both(book, some_entry(source, "abc"), Contradicted, error.number)
                count += 1
        self.assertGreater(count, 10)
        book = Book(Found("a", 5, True), r=("b", 4))
        book += Begun("b", 3)
        book -= 1
        book += Found("a", 4, False)
        self.refused_both(book, Entry("a", 3, "b"), Contradicted, 2)

    def test_later(self):
        book = Book(Trusted("s"))
        book.today = 9
        self.assertEqual(outcomes(book, Entry("a", 9, "s")), ("pass", "fail"))
        self.refused_both(book, Entry("a", 10, "s"), Later, 10)
        book.today = 0
        self.refused_both(book, Entry("a", 9, "s"), Later, 9)

    def test_too_many(self):
        book = Book(*[Trusted("s")] * 79)
        self.assertEqual(outcomes(book, Entry("a", 9, "s")), ("pass", "fail"))
        book += Trusted("s")
        self.refused_both(book, Entry("a", 9, "s"), TooMany, "rows", 80)
        book = Book(*[Trusted(f"t{k:02}") for k in range(11)])
        self.assertEqual(outcomes(book, Entry("a", 9, "a")), ("pass", "fail"))
        self.refused_both(book, Entry("a", 9, "b"), TooMany, "tools", 12)
        self.assertEqual(outcomes(book, Entry("t00", 9, "b")), ("pass", "fail"))
        book["r"] = ("c", 3)
        self.refused_both(book, Entry("t00", 9, "b"), TooMany, "tools", 12)
        self.assertEqual(outcomes(book, Entry("c", 9, "t00")), ("pass", "fail"))

    def test_in_their_order(self):
        book = Book(*[Trusted(f"t{k:02}") for k in range(12)] * 6, *[Found("t00", 3, True)] * 7)
        book.today = 5
        for entry, error, fields in ((Entry("a", 6, "b"), Later, (6,)), (Entry("a", 5, "b"), TooMany, ("tools", 12))):
            self.refused_both(book, entry, error, *fields)
        book.put(Found("t00", 4, True))
        self.refused_both(book, Entry("a", 6, "b"), Later, 6)
        self.refused_both(book, Entry("a", 5, "b"), TooMany, "rows", 80)
        book -= 79
        book += Found("t00", 4, False)
        self.refused_both(book, Entry("a", 6, "b"), Contradicted, 80)

    def test_what_is_wanted_does_not_count(self):
        wanted = [Saying(f"x{k}", k, True) for k in range(200)]
        self.assertEqual(settles(Book(), Entry("a", 3, "b"), wanted), {"pass": (), "fail": ()})


class Whole(Case):
    def test_a_row_of_an_outcome_is_what_is_put(self):
        source = random.Random(356)
        for book in books(120, 357, most=5):
            if not keeping(book):
                continue
            entry, tools = some_entry(source, "abcd"), "abcd"
            wanted = [some_saying(source, tools) for _ in range(3)]
            told = settles(book, entry, wanted)
            for word in ("pass", "fail"):
                more = book.twin()
                more += entry.row_of(word)
                self.assertIs(word in told, bool(keeping(more)))
                if word in told:
                    judge, before = Judge(more), Judge(book)
                    for saying in wanted:
                        was_open = saying.tool not in book.tools or before(saying) == "open"
                        is_settled = saying.tool in more.tools and judge(saying) != "open"
                        self.assertIs(saying in told[word], was_open and is_settled)

    def test_lives_split_by_beginnings(self):
        book = Book(Begun("a", 7), Trusted("s"), Agreed("a", 3, "b", 9))
        self.assertEqual(book.lives, Lives({"a": [7], "b": [], "s": []}))
        wanted = [Saying("a", 3, True), Saying("a", 8, True), Saying("b", 9, True)]
        self.assertEqual(settles(book, Entry("a", 6, "s"), wanted), {"pass": (wanted[0], wanted[2]), "fail": ()})
        self.assertEqual(settles(book, Entry("a", 9, "s"), wanted), {"pass": (wanted[1],), "fail": ()})
