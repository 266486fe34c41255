"""The texts of books [23]."""

import unittest

from kit import STRANGE, TOP, Case
from soundtill.books import Book
from soundtill.errors import BadText, Later, TooMany
from soundtill.rows import Agreed, Backed, Begun, Differed, Failed, Found, Passed, Served, SetBy, Trusted
from soundtill.texts import book_text

ALL = [
    Begun("a", 1), SetBy("a", 7, "b"), Found("a", 0, True), Found("a", TOP, False), Trusted("std"), Passed("a", 8, "b"),
    Failed("a", 8, "a"), Agreed("a", 3, "b", 9), Differed("a", 3, "b", 9), Served("a", 9, "b", 3), Backed("a", 9, "a", 9),
]


class Written(Case):
    def test_each_part(self):
        book = Book(Trusted("x"), Found("a", 10, True), Agreed("a", 3, "b", 9), r2=("b", 4), r10=("a", 0))
        book -= 0
        text = "found a 10 sound\nagreed a 3 b 9\nrecord r10 a 0\nrecord r2 b 4"
        self.assertEqual((str(book), book_text(book), book_text(book=book)), (text, text, text))
        book.today = 20
        self.assertEqual(str(book), text + "\ntoday 20")

    def test_records_set_in_any_order(self):
        book = Book()
        for name in ("r2", "z", "r10", "a"):
            book[name] = ("b", 4)
        book["z"] = ("b", 5)
        self.assertEqual(str(book), "record a b 4\nrecord r10 b 4\nrecord r2 b 4\nrecord z b 5")
        self.same(Book.read(str(book)), book)

    def test_some_parts(self):
        book = Book()
        self.assertEqual(str(book), "empty")
        book.today = 0
        self.assertEqual(str(book), "today 0")
        book["r"] = ("a", 0)
        self.assertEqual(str(book), "record r a 0\ntoday 0")
        book.today = None
        self.assertEqual(str(book), "record r a 0")
        book.drop("r")
        self.assertEqual(str(book), "empty")
        self.assertEqual(str(Book(Trusted("a"))), "trusted a")


class ReadAgain(Case):
    def read_again(self, book):
        text = str(book)
        again = Book.read(text)
        self.same(again, book)
        self.assertEqual((str(again), again.today), (text, book.today))
        lines = [line for line in text.split("\n") if line != "empty" and not line.startswith("today")]
        self.assertEqual(again.deeds, len(lines))
        for n in range(again.deeds + 1):
            self.assertEqual(str(again.known(n)), "\n".join(lines[:n]) or "empty")

    def test_books(self):
        for book in (Book(), Book(*ALL), Book(*ALL, *ALL), Book(r=("a", 5)), Book(*ALL, r=("a", 5), today=("b", TOP), a=("c", 0)),
                     Book(*ALL[::-1], empty=("today", 3)), Book(*[Trusted("a")] * 80, **{f"r{k}": ("a", k) for k in range(60)})):
            self.read_again(book)
            book.today = TOP
            self.read_again(book)
            if len(book):
                book -= len(book) - 1
                self.read_again(book)

    def test_read(self):
        book = Book.read(text="trusted a\nbegun a 7\nrecord r b 3\ntoday 9")
        self.assertEqual([(number, str(row)) for number, row in book.rows()], [(0, "trusted a"), (1, "begun a 7")])
        self.assertEqual((book.records, book.today, book.deeds), ({"r": ("b", 3)}, 9, 3))
        self.assertEqual((Book.read("empty") == Book(), Book.read("empty").deeds, Book.read("today 0").today), (True, 0, 0))
        self.assertIs(type(book), Book)

    def test_too_many_and_later_as_they_come(self):
        self.refused(lambda: Book.read("\n".join(["trusted a"] * 81)), TooMany, "rows", 80)
        self.assertEqual(len(Book.read("\n".join(["trusted a"] * 80))), 80)
        rows = "\n".join([f"trusted a{k}" for k in range(13)])
        self.refused(lambda: Book.read(rows + "\n" + "\n".join(["trusted a1"] * 80)), TooMany, "tools", 12)
        records = "\n".join([f"record r{k:02} a 5" for k in range(61)])
        self.refused(lambda: Book.read(records), TooMany, "records", 60)
        self.assertEqual(len(Book.read(records[:-len("\nrecord r60 a 5")]).records), 60)
        self.refused(lambda: Book.read(records + "\ntoday 3"), TooMany, "records", 60)
        self.refused(lambda: Book.read("found a 5 sound\nrecord r a 7\ntoday 6"), Later, 7)
        self.refused(lambda: Book.read("agreed a 5 b 9\nrecord r a 7\ntoday 6"), Later, 9)
        self.assertEqual(Book.read("agreed a 5 b 9\nrecord r a 7\ntoday 9").today, 9)
        # A word that cannot stand comes first, wherever it is.
        self.refused(lambda: Book.read("\n".join(["trusted a"] * 81) + "\ntrusted A"), BadText, 81, 1)
        self.refused(lambda: Book.read("found a 5 sound\ntoday 3\n"), BadText, 2, 0)


class Refused(Case):
    def wrong(self, text, line, word):
        self.refused(lambda: Book.read(text), BadText, line, word)

    def test_no_text(self):
        for value in [None, True, 0, Book(), *[value for value in STRANGE if not isinstance(value, str)]]:
            self.wrong(value, 0, 0)

    def test_empty_lines_and_words(self):
        for text, line, word in (
            ("", 0, 0), ("\n", 0, 0), (" ", 0, 0), ("trusted a\n", 1, 0), ("\ntrusted a", 0, 0), ("trusted a\n\ntrusted b", 1, 0),
            ("trusted a ", 0, 2), (" trusted a", 0, 0), ("trusted  a", 0, 1), ("empty ", 0, 1), ("empty\n", 1, 0), ("today 3 ", 0, 2),
            ("today  3", 0, 1), ("today 3\n", 1, 0), ("record  r a 5", 0, 1), ("record r a 5 ", 0, 4), ("record r a 5\n", 1, 0),
        ):
            self.wrong(text, line, word)

    def test_rows_in_each_line(self):
        for ahead in range(3):
            start = "trusted a\n" * ahead
            for text, word in (
                ("found a 10 soun", 3), ("found a 10", 3), ("found a", 2), ("found", 1), ("founds a 10 sound", 0),
                ("found a 010 sound", 2), ("found A 10 sound", 1), ("found a 10 sound b", 4), ("begun a 0", 2), ("setby a 0 b", 2),
                ("begun a 7 b", 3), ("agreed a 3 b", 4), ("agreed a 3 b x", 4), ("agreed a 3 b 9 9", 5), ("passed a 3 3", 3),
                (f"passed a {TOP + 1} b", 2), ("check a 3 by b", 0), ("a 3 sound", 0), ("none", 0), ("Empty", 0),
            ):
                self.wrong(start + text, ahead, word)
                self.wrong(start + text + "\nnonsense", ahead, word)
        self.assertEqual(str(Book.read("passed a 0 b")), "passed a 0 b")

    def test_records(self):
        for ahead in ("", "trusted a\n", "record a a 5\n"):
            line = ahead.count("\n")
            for text, word in (
                ("record", 1), ("record r", 2), ("record r a", 3), ("record r a 5 6", 4), ("record R a 5", 1), ("record r A 5", 2),
                ("record r a 05", 3), ("record r a -5", 3), (f"record r a {TOP + 1}", 3), ("record sure a 5", 1), ("record r open 5", 2),
                ("record r 5 a", 2), ("records r a 5", 0), ("record r a sound", 3),
            ):
                self.wrong(ahead + text, line, word)

    def test_records_not_ascending(self):
        self.wrong("record r a 5\nrecord r a 5", 1, 1)
        self.wrong("record r a 5\nrecord q a 5", 1, 1)
        self.wrong("record r2 a 5\nrecord r10 a 5", 1, 1)
        self.wrong("record a a 5\nrecord r a 5\nrecord b a 5", 2, 1)
        self.wrong("record r a 5\nrecord q A 5", 1, 1)
        self.wrong("record r a 5\nrecord q", 1, 1)
        self.wrong("record r a 5\nrecord s", 1, 2)
        self.wrong("record r a 5\nrecord s A 5", 1, 2)
        self.wrong("record r a 5\nrecord R A 5", 1, 1)
        self.assertEqual(len(Book.read("record r a 5\nrecord r0 a 5\nrecord s a 5").records), 3)

    def test_today(self):
        for ahead in ("", "trusted a\n", "record a a 5\n"):
            line = ahead.count("\n")
            for text, word in (("today", 1), ("today none", 1), ("today 05", 1), ("today a", 1), ("today 5 6", 2), ("today -1", 1),
                               (f"today {TOP + 1}", 1), ("Today 5", 0)):
                self.wrong(ahead + text, line, word)
            self.assertEqual(Book.read(ahead + "today 5").today, 5)

    def test_lines_that_may_not_come_there(self):
        self.wrong("record r b 4\ntrusted b", 1, 0)
        self.wrong("trusted b\nrecord r b 4\nrecord s b 4\ntrusted B", 3, 0)
        for more in ("trusted b", "record r b 4", "today 5", "empty", "", "nonsense"):
            self.wrong("today 5\n" + more, 1, 0)
            self.wrong("trusted a\ntoday 5\n" + more, 2, 0)
            self.wrong("empty\n" + more, 1, 0)
        for ahead in ("trusted a", "record r b 4", "today 5", "trusted a\nrecord r b 4"):
            self.wrong(ahead + "\nempty", ahead.count("\n") + 1, 0)
        for text in ("empty a", "empty 5", "empty empty", "empty trusted a"):
            self.wrong(text, 0, 1)

    def test_first_of_several(self):
        self.wrong("trusted a\ntrusted A\nfound b", 1, 1)
        self.wrong("found A 05 good more\n", 0, 1)
        self.wrong("empty\ntrusted A", 1, 0)
        self.wrong("trusted a\nempty more", 1, 0)

    def test_each_word_of_a_text_exchanged_doubled_and_left_out(self):
        text = "begun a 7\nagreed a 3 b 9\nrecord q a 5\nrecord r b 4\ntoday 9"
        lines = [line.split(" ") for line in text.split("\n")]
        for at, words in enumerate(lines):
            for k in range(len(words)):
                for word in ("", "A", "sound"):
                    changed = [list(line) for line in lines]
                    changed[at][k] = word
                    self.wrong("\n".join([" ".join(line) for line in changed]), at, k)
            for more in ("x", "7", ""):
                changed = [list(line) for line in lines]
                changed[at].append(more)
                self.wrong("\n".join([" ".join(line) for line in changed]), at, len(words))
            changed = [list(line) for line in lines]
            changed[at].pop()
            self.wrong("\n".join([" ".join(line) for line in changed]), at, len(words) - 1)
        for at in range(len(text)):
            if text[at] in " \n":
                with self.assertRaises(BadText):
                    Book.read(text[:at] + text[at] + text[at:])


if __name__ == "__main__":
    unittest.main()
