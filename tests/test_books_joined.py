"""New books from books: + | & << renamed; and when two are equal."""

import unittest

from kit import STRANGE, TOP, Case
from soundtill.books import Book
from soundtill.errors import BadMoment, BadName, Clash, TooMany
from soundtill.rows import Agreed, Backed, Begun, Found, Passed, SetBy, Trusted


def texts(book):
    return [str(row) for number, row in book.rows()]


class Joined(Case):
    def setUp(self):
        self.one = Book(Trusted("x"), Trusted("a"), Found("a", 3, True), Trusted("a"), r=("a", 5), q=("b", 6))
        self.one -= 0
        self.one.today = 9
        self.other = Book(Trusted("b"), Trusted("a"), Trusted("b"), r=("a", 5), p=("c", 7))
        self.other.today = 8
        self.before = [str(self.one), self.one.deeds, str(self.other), self.other.deeds]

    def tearDown(self):
        self.assertEqual([str(self.one), self.one.deeds, str(self.other), self.other.deeds], self.before)

    def looked_at(self, book, rows, records):
        """The book has these rows and records, each a deed, rows ahead of records by ascending names, and no today."""
        self.assertIs(type(book), Book)
        self.assertEqual([(number, str(row)) for number, row in book.rows()], list(enumerate(rows)))
        self.assertEqual((book.records, book.today, book.deeds), (records, None, len(rows) + len(records)))
        for n in range(book.deeds + 1):
            known = book.known(n)
            self.assertEqual(texts(known), rows[:n])
            self.assertEqual(sorted(known.records), sorted(records)[:max(0, n - len(rows))])
        self.assertEqual(book.put(Trusted("a")), len(rows))

    def test_plus(self):
        rows = ["trusted a", "found a 3 sound", "trusted a", "trusted b", "trusted a", "trusted b"]
        self.looked_at(self.one + self.other, rows, {"p": ("c", 7), "q": ("b", 6), "r": ("a", 5)})
        self.looked_at(self.other + self.one, rows[3:] + rows[:3], {"p": ("c", 7), "q": ("b", 6), "r": ("a", 5)})
        self.looked_at(Book() + Book(), [], {})
        self.looked_at(self.one + Book(), rows[:3], self.one.records)

    def test_or(self):
        records = {"p": ("c", 7), "q": ("b", 6), "r": ("a", 5)}
        self.looked_at(self.one | self.other, ["trusted a", "found a 3 sound", "trusted a", "trusted b", "trusted b"], records)
        self.looked_at(self.other | self.one, ["trusted b", "trusted a", "trusted b", "found a 3 sound"], records)
        self.looked_at(self.one | self.one, ["trusted a", "found a 3 sound", "trusted a"], self.one.records)

    def test_and(self):
        self.looked_at(self.one & self.other, ["trusted a", "trusted a"], {"r": ("a", 5)})
        self.looked_at(self.other & self.one, ["trusted a"], {"r": ("a", 5)})
        self.looked_at(self.one & Book(), [], {})
        self.looked_at(self.one & Book(r=("a", 6), q=("b", 6)), [], {"q": ("b", 6)})

    def test_clash(self):
        other = Book(*[Trusted("a")] * 80, s=("b", 1), r=("a", 6), q=("b", 7), p=("c", 8))
        self.refused(lambda: self.one + other, Clash, "q")
        self.refused(lambda: self.one | other, Clash, "q")
        self.refused(lambda: other + self.one, Clash, "q")
        other["q"] = ("b", 6)
        self.refused(lambda: self.one + other, Clash, "r")
        other["r"] = ("a", 5)
        self.refused(lambda: self.one + other, TooMany, "rows", 80)
        self.refused(lambda: other | self.one, TooMany, "rows", 80)
        self.assertEqual(len(self.one & other), 2)

    def test_records_set_in_any_order(self):
        one, other = Book(), Book()
        for name in ("z", "b", "m", "a"):
            one[name] = ("a", 3)
            other[name] = ("a", 4)
        self.refused(lambda: one + other, Clash, "a")
        self.refused(lambda: one | other, Clash, "a")
        for book in (one + one, one | one, one & one, one << 1, one.renamed({"a": "b"})):
            self.assertEqual([sorted(book.known(n).records) for n in range(4)], [[], ["a"], ["a", "b"], ["a", "b", "m"]])
        one["a"] = ("a", 0)
        one["z"] = ("a", 1)
        self.refused(lambda: one << -2, BadMoment, -2)

    def test_too_many(self):
        tools = Book(*[Trusted(f"a{k}") for k in range(12)])
        self.refused(lambda: tools + Book(Trusted("b")), TooMany, "tools", 12)
        self.refused(lambda: tools | Book(r=("b", 3)), TooMany, "tools", 12)
        many = Book(**{f"r{k}": ("a0", k) for k in range(60)})
        self.assertEqual(len((tools + many).records), 60)
        self.refused(lambda: many + Book(q=("a", 3)), TooMany, "records", 60)
        # Rows come ahead of records, and the tools of both count.
        self.refused(lambda: (many + tools) + Book(Trusted("b"), q=("a", 3)), TooMany, "tools", 12)
        rows = Book(*[Trusted("a")] * 41)
        self.refused(lambda: rows + Book(*[Trusted("a")] * 40), TooMany, "rows", 80)
        self.assertEqual(len(rows | Book(*[Trusted("a")] * 40)), 41)
        self.assertEqual(len(rows + Book(*[Trusted("a")] * 39)), 80)
        # The eightieth row is the thirteenth tool's: tools are counted where the bound of rows is not met.
        full = Book(*[Trusted(f"a{k % 12}") for k in range(79)])
        self.refused(lambda: full + Book(Trusted("b"), Trusted("a0")), TooMany, "tools", 12)
        self.refused(lambda: full + Book(Trusted("a0"), Trusted("b")), TooMany, "rows", 80)

    def test_books_apart(self):
        joined = self.one + self.other
        joined -= 0
        joined["r"] = ("c", 1)
        joined.today = 30
        again = self.one | self.one
        again += Trusted("q")
        self.assertEqual((len(joined), len(again)), (5, 4))


class Moved(Case):
    def setUp(self):
        self.book = Book(Trusted("x"), Begun("a", 7), Agreed("a", 3, "b", 9), Trusted("a"), r=("a", 5), q=("b", 6))
        self.book -= 0
        self.book.today = 9

    def test_moved(self):
        before = str(self.book)
        moved = self.book << 2
        self.assertEqual(str(moved), "begun a 9\nagreed a 5 b 11\ntrusted a\nrecord q b 8\nrecord r a 7")
        self.assertEqual(([number for number, row in moved.rows()], moved.deeds, moved.today), ([0, 1, 2], 5, None))
        self.assertEqual(str(self.book << -3), "begun a 4\nagreed a 0 b 6\ntrusted a\nrecord q b 3\nrecord r a 2")
        self.same(self.book << 0, self.book)
        self.assertEqual(str(Book() << 5), "empty")
        self.assertEqual((str(self.book), self.book.deeds, self.book.today), (before, 7, 9))

    def test_moved_refused(self):
        self.refused(lambda: self.book << -4, BadMoment, -1)
        self.refused(lambda: self.book << -7, BadMoment, 0)
        self.refused(lambda: self.book << TOP, BadMoment, TOP + 7)
        records = Book(r=("a", 5), q=("b", 6), z=("b", 0))
        self.refused(lambda: records << -7, BadMoment, -1)
        self.refused(lambda: records << -6, BadMoment, -1)
        self.refused(lambda: records << TOP, BadMoment, TOP + 6)
        self.refused(lambda: records << -1, BadMoment, -1)
        self.refused(lambda: Book(Found("a", 8, True), q=("b", 2)) << -3, BadMoment, -1)
        self.refused(lambda: Book(Found("a", 8, True), Found("a", 2, True), q=("b", 1)) << -3, BadMoment, -1)
        self.refused(lambda: Book(Found("a", 8, True), Found("a", 2, True), q=("b", 1)) << -4, BadMoment, -2)

    def test_renamed(self):
        before, names = str(self.book), {"a": "b", "b": "a", "z": "q"}
        other = self.book.renamed(names)
        self.assertEqual(str(other), "begun b 7\nagreed b 3 a 9\ntrusted b\nrecord q a 6\nrecord r b 5")
        self.assertEqual(([number for number, row in other.rows()], other.deeds, other.today), ([0, 1, 2], 5, None))
        self.assertEqual((str(self.book), names), (before, {"a": "b", "b": "a", "z": "q"}))
        self.same(self.book.renamed(names={}), self.book)
        self.same(self.book.renamed({"z": 5}), self.book)
        self.assertEqual(str(self.book.renamed({"a": "c"})), before.replace(" a ", " c ").replace("trusted a", "trusted c")[:-8])

    def test_renamed_refused(self):
        for value in [None, True, 0, "none", *STRANGE]:
            self.refused(lambda: self.book.renamed({"b": value}), BadName, value)
        self.refused(lambda: self.book.renamed({"b": 2, "a": 1}), BadName, 1)
        self.refused(lambda: self.book.renamed({"b": 2, "a": "b"}), BadName, 2)
        self.refused(lambda: self.book.renamed({"a": "b"}), Clash, "b")
        self.refused(lambda: self.book.renamed({"b": "a"}), Clash, "a")
        self.refused(lambda: self.book.renamed({"b": "c", "a": "c"}), Clash, "c")
        four = Book(*[Trusted(tool) for tool in ("a", "b", "c", "d")])
        self.refused(lambda: four.renamed({"a": "z", "b": "z", "c": "d"}), Clash, "d")
        self.refused(lambda: four.renamed({"a": "y", "b": "z", "c": "z", "d": "y"}), Clash, "y")
        # A tool that was taken back is no tool of the book.
        self.assertEqual(self.book.renamed({"a": "x"}).tools, ("b", "x"))
        self.assertEqual(self.book.renamed({"x": "a"}).tools, ("a", "b"))


class Equal(Case):
    def test_equal(self):
        one = Book(Trusted("a"), Trusted("b"), r=("a", 5))
        other = Book(Trusted("c"), Trusted("a"), s=("b", 4))
        other -= 0
        other.drop("s")
        other["r"] = ("a", 5)
        other += Trusted("b")
        other.today = 50
        self.same(one, other)
        self.same(Book(), Book())

    def test_unlike(self):
        book = Book(Trusted("a"), Backed("b", 3, "a", 4), r=("a", 5))
        for other in (
            Book(Backed("b", 3, "a", 4), Trusted("a"), r=("a", 5)), Book(Trusted("a"), r=("a", 5)), Book(),
            Book(Trusted("a"), Backed("b", 3, "a", 4)), Book(Trusted("a"), Backed("b", 3, "a", 4), r=("a", 6)),
            Book(Trusted("a"), Backed("b", 3, "a", 4), q=("a", 5)), Book(Trusted("a"), Agreed("b", 3, "a", 4), r=("a", 5)),
            Book(Trusted("a"), Backed("b", 3, "a", 4), Trusted("a"), r=("a", 5)),
        ):
            self.unlike(book, other)
        for other in [None, True, 2, str(book), ["trusted a"], *STRANGE]:
            self.unlike(book, other)
        self.unlike(Book(Passed("a", 3, "b")), Book(SetBy("a", 3, "b")))


if __name__ == "__main__":
    unittest.main()
