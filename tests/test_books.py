"""Books: rows and records that come and are taken back."""

import unittest

from kit import STRANGE, TOP, Case
from soundtill.books import Book
from soundtill.errors import BadMoment, BadName, BadPoint, BadRow, Later, NoDeed, NoRecord, NoRow, TooMany
from soundtill.lives import Lives
from soundtill.rows import Agreed, Begun, Found, Passed, Row, SetBy, Trusted
from soundtill.sayings import Saying

NO_ROWS = [None, True, False, 0, "trusted a", Book(), *[value for value in STRANGE if not isinstance(value, Row)]]


def state(book):
    """Everything that can be seen of a book, but for its deeds one by one."""
    return [(number, str(row)) for number, row in book.rows()], book.records, book.today, book.deeds


def whole(book):
    """Everything that can be seen of a book."""
    return state(book), [state(book.known(n)) for n in range(book.deeds + 1)], str(book)


class Rows(Case):
    def test_new_book(self):
        book = Book()
        self.assertEqual(state(book), ([], {}, None, 0))
        self.assertEqual((len(book), bool(book), book.tools, book.told, len(book.lives)), (0, False, (), (), 0))
        self.assertEqual((Book.MOST_ROWS, Book.MOST_RECORDS, Book.MOST_TOOLS), (80, 60, 12))

    def test_put_and_take_back(self):
        book = Book()
        one, two = Trusted("a"), Found("b", 3, True)
        self.assertEqual([book.put(one), book.put(row=two), book.put(one)], [0, 1, 2])
        self.assertEqual((len(book), book.deeds, bool(book)), (3, 3, True))
        book -= 1
        self.assertEqual(state(book), ([(0, "trusted a"), (2, "trusted a")], {}, None, 4))
        book += two
        self.assertEqual([number for number, row in book.rows()], [0, 2, 3])
        self.same(book.row_of(3), two)
        self.same(book.row_of(number=0), one)
        book -= 3
        self.assertEqual(book.put(two), 4)
        for number in (1, 3, 5, -1):
            self.refused(lambda: book.row_of(number), NoRow, number)

    def test_the_same_book_behind_its_signs(self):
        book = same = Book()
        book += Trusted("a")
        book -= 0
        self.assertIs(book, same)
        self.assertEqual(book.deeds, 2)

    def test_made_with_rows(self):
        book = Book(Trusted("a"), Begun("a", 7), Trusted("a"))
        self.assertEqual(state(book), ([(0, "trusted a"), (1, "begun a 7"), (2, "trusted a")], {}, None, 3))

    def test_no_row(self):
        for value in NO_ROWS:
            book = Book(Trusted("a"), r=("a", 3))
            before = whole(book)
            self.refused(lambda: book.put(value), BadRow, 0)
            self.refused(lambda: book.__iadd__(value), BadRow, 0)
            self.refused(lambda: Book(Trusted("a"), Trusted("b"), value, None), BadRow, 2)
            self.refused(lambda: Book(value), BadRow, 0)
            self.assertEqual(whole(book), before)
        self.refused(lambda: Book(*[Trusted("a")] * 81, 5), BadRow, 81)
        self.refused(lambda: Book(Trusted("a"), 5, r=5), BadRow, 1)

    def test_no_number(self):
        book = Book(Trusted("a"), Trusted("b"), Trusted("c"))
        book -= 1
        before = whole(book)
        for value in [None, True, False, 1, 3, "0", *STRANGE]:
            self.refused(lambda: book.row_of(value), NoRow, value)
            self.refused(lambda: book.__isub__(value), NoRow, value)
        self.assertEqual(whole(book), before)

    def test_rows_yields_what_stands_when_the_first_is_asked_for(self):
        book = Book(Trusted("a"), Trusted("b"), Trusted("c"))
        pairs = book.rows()
        book -= 0
        self.assertEqual(next(pairs)[0], 1)
        book -= 2
        book += Trusted("d")
        self.assertEqual([(number, str(row)) for number, row in pairs], [(2, "trusted c")])
        self.assertEqual([number for number, row in book.rows()], [1, 3])
        self.assertIs(type(next(book.rows())), tuple)

    def test_not_iterated_over(self):
        with self.assertRaises(TypeError):
            iter(Book(Trusted("a")))


class Records(Case):
    def test_set_ask_drop(self):
        book = Book()
        book["r1"] = ("a", 5)
        book["r0"] = ("b", 0)
        self.assertEqual((book["r1"], book.records, book.deeds), (("a", 5), {"r1": ("a", 5), "r0": ("b", 0)}, 2))
        self.assertEqual((len(book), bool(book), book.tools, book.told), (0, True, ("a", "b"), (("a", 5), ("b", 0))))
        book["r1"] = ("c", TOP)
        self.assertEqual((book["r1"], book.tools, book.deeds), (("c", TOP), ("b", "c"), 3))
        book.drop("r1")
        self.assertEqual((book.records, book.deeds, "r1" in book, "r0" in book), ({"r0": ("b", 0)}, 4, False, True))
        book.drop(name="r0")
        self.assertEqual((bool(book), book.tools), (False, ()))

    def test_by_keyword_in_the_order_of_their_names(self):
        book = Book(Trusted("a"), r2=("b", 1), r10=("c", 2), q=("a", 3))
        self.assertEqual([sorted(book.known(n).records) for n in range(book.deeds + 1)],
                         [[], [], ["q"], ["q", "r10"], ["q", "r10", "r2"]])
        self.refused(lambda: Book(r2=5, r10=("c", -1)), BadMoment, -1)
        self.refused(lambda: Book(Z=3, r=5), BadName, "Z")
        self.refused(lambda: Book(sure=3), BadName, "sure")

    def test_a_record_called_self(self):
        book = Book()
        book["self"] = ("a", 3)
        for other in (book.twin(), book + Book(), book | Book(), book & book, book << 0, book.renamed({}), Book.read(str(book)),
                      book.known(1)):
            self.assertEqual(other["self"], ("a", 3))

    def test_records_is_a_new_dict(self):
        book = Book(r=("a", 3))
        records = book.records
        records["s"] = ("b", 4)
        del records["r"]
        self.assertEqual(book.records, {"r": ("a", 3)})
        self.assertIsNot(book.records, book.records)

    def test_refused(self):
        book = Book(Trusted("a"), r=("a", 3))
        book.set_today(9)
        before = whole(book)

        def put(name, value):
            book[name] = value

        for value in [None, True, 0, "open", *STRANGE]:
            self.refused(lambda: put(value, 5), BadName, value)
        for value in [None, True, 0, "ab", (), ("a",), ("a", 3, 4), ["a", 3], {"a": 3, "b": 4}, Saying("a", 3, True)]:
            self.refused(lambda: put("r", value), BadPoint, value)
        for value in [None, True, 0, "open", *STRANGE]:
            self.refused(lambda: put("r", (value, -1)), BadName, value)
        for value in [None, True, False, "0", *STRANGE]:
            self.refused(lambda: put("r", ("a", value)), BadMoment, value)
        self.refused(lambda: put("r", ("a", 10)), Later, 10)
        self.refused(lambda: put("q", ("a", TOP)), Later, TOP)
        self.assertEqual(whole(book), before)

    def test_no_record(self):
        book = Book(r=("a", 3), t=("b", 4))
        book.drop("t")
        before = whole(book)
        for value in [None, True, 0, "t", "q", ("r",), ["r"], *STRANGE]:
            self.assertIs(value in book, False)
            self.refused(lambda: book[value], NoRecord, value)
            self.refused(lambda: book.drop(value), NoRecord, value)
        self.assertEqual(whole(book), before)
        self.assertIs("r" in book, True)


class Bounds(Case):
    def test_rows(self):
        book = Book(*[Trusted("a")] * 80)
        before = whole(book)
        self.refused(lambda: book.put(Trusted("a")), TooMany, "rows", 80)
        self.refused(lambda: Book(*[Trusted("a")] * 81), TooMany, "rows", 80)
        self.assertEqual(whole(book), before)
        book -= 17
        self.assertEqual(book.put(Trusted("b")), 80)
        self.refused(lambda: book.put(Trusted("a")), TooMany, "rows", 80)

    def test_records(self):
        book = Book(**{f"r{k}": ("a", k) for k in range(60)})
        before = whole(book)
        self.refused(lambda: book.__setitem__("q", ("a", 3)), TooMany, "records", 60)
        self.refused(lambda: Book(**{f"r{k}": ("a", k) for k in range(61)}), TooMany, "records", 60)
        self.assertEqual(whole(book), before)
        book["r7"] = ("b", 9)
        self.assertEqual((book["r7"], len(book.records)), (("b", 9), 60))
        book.drop("r3")
        book["q"] = ("a", 3)
        self.refused(lambda: book.__setitem__("r3", ("a", 3)), TooMany, "records", 60)

    def test_tools(self):
        book = Book(*[Trusted(f"a{k}") for k in range(10)], r=("b", 3), s=("c", 3))
        before = whole(book)
        self.assertEqual(len(book.tools), 12)
        self.refused(lambda: book.put(Trusted("d")), TooMany, "tools", 12)
        self.refused(lambda: book.put(Passed("d", 3, "a0")), TooMany, "tools", 12)
        self.refused(lambda: book.__setitem__("q", ("d", 3)), TooMany, "tools", 12)
        self.assertEqual(whole(book), before)
        book["s"] = ("d", 3)
        self.assertEqual(book.tools[-2:], ("b", "d"))
        book["t"] = ("d", 5)
        self.refused(lambda: book.__setitem__("s", ("c", 3)), TooMany, "tools", 12)
        book -= 4
        book["s"] = ("c", 3)
        self.refused(lambda: book.put(Trusted("a4")), TooMany, "tools", 12)
        book.drop("r")
        self.assertEqual(book.put(Trusted("a4")), 10)
        self.refused(lambda: Book(*[Agreed(f"a{k}", 3, f"b{k}", 4) for k in range(7)]), TooMany, "tools", 12)
        self.assertEqual(len(Book(*[Agreed(f"a{k}", 3, f"b{k}", 4) for k in range(6)]).tools), 12)
        self.refused(lambda: Book(**{f"r{k}": (f"a{k}", 0) for k in range(13)}), TooMany, "tools", 12)

    def test_order_of_the_errors(self):
        book = Book(*[Trusted(f"a{k % 12}") for k in range(80)], **{f"r{k}": ("a0", 3) for k in range(60)})
        book.set_today(9)
        self.refused(lambda: book.put(None), BadRow, 0)
        self.refused(lambda: book.put(Agreed("b", 10, "c", 11)), Later, 11)
        self.refused(lambda: book.put(Agreed("b", 12, "c", 11)), Later, 12)
        self.refused(lambda: book.put(Agreed("b", 8, "c", 9)), TooMany, "rows", 80)
        self.refused(lambda: book.put(Trusted("b")), TooMany, "rows", 80)
        book -= 79
        self.refused(lambda: book.put(Agreed("b", 8, "c", 9)), TooMany, "tools", 12)
        self.refused(lambda: book.__setitem__("q", ("b", 10)), Later, 10)
        self.refused(lambda: book.__setitem__("q", ("b", 9)), TooMany, "records", 60)
        self.refused(lambda: book.__setitem__("r0", ("b", 9)), TooMany, "tools", 12)

    def test_rows_ahead_of_records(self):
        tools = [Trusted(f"a{k}") for k in range(13)]
        self.refused(lambda: Book(*tools, r=5), TooMany, "tools", 12)
        self.refused(lambda: Book(*tools[:12], r=5), BadPoint, 5)
        self.refused(lambda: Book(*tools[:12], q=("b", 4), r=5), TooMany, "tools", 12)


class Told(Case):
    def test_beginnings(self):
        book = Book(Found("a", 10, True))
        self.same(book.lives, Lives({"a": []}))
        number = book.put(Begun("a", 7))
        self.same(book.lives, Lives({"a": [7]}))
        book += SetBy("a", 7, "b")
        self.same(book.lives, Lives({"a": [7], "b": []}))
        book -= number
        self.same(book.lives, Lives({"a": [7], "b": []}))
        book += Begun("b", 1)
        book += Begun("a", 3)
        self.same(book.lives, Lives({"a": [3, 7], "b": [1]}))
        book -= 2
        self.same(book.lives, Lives({"a": [3], "b": [1]}))

    def test_points(self):
        book = Book(Begun("a", 7), Passed("a", 8, "b"), Agreed("a", 3, "c", 1), Passed("a", 8, "c"), r=("d", 4), q=("a", 3))
        self.assertEqual(book.told, (("a", 3), ("a", 8), ("b", 8), ("c", 1), ("c", 8), ("d", 4)))
        self.assertEqual(book.tools, ("a", "b", "c", "d"))
        self.same(book.lives, Lives({"a": [7], "b": [], "c": [], "d": []}))

    def test_trusted_is_told_by_the_last_moments(self):
        book = Book(Trusted("a"))
        self.assertEqual(book.told, (("a", TOP),))
        book += Begun("a", 7)
        self.assertEqual(book.told, (("a", 6), ("a", TOP)))
        book += SetBy("a", 9, "b")
        self.assertEqual(book.told, (("a", 6), ("a", 8), ("a", 9), ("a", TOP), ("b", 9)))
        book -= 1
        self.assertEqual(book.told, (("a", 8), ("a", 9), ("a", TOP), ("b", 9)))
        book -= 0
        self.assertEqual(book.told, (("a", 9), ("b", 9)))

    def test_records_of_tools_of_their_own(self):
        book = Book(r=("a", 4))
        self.assertEqual((book.tools, book.told, book.lives.listed), (("a",), (("a", 4),), (("a", 0),)))

    def test_kinds(self):
        book = Book(Begun("a", 7), Found("a", 7, True), r=("a", 4))
        for told in (book.tools, book.told, book.told[0], book["r"]):
            self.assertIs(type(told), tuple)


class Today(Case):
    def test_assigned_and_set(self):
        book = Book(Found("a", 10, True), r=("a", 12))
        self.assertIs(book.today, None)
        for value in (12, 13, TOP, None, 12):
            book.today = value
            self.assertEqual(book.today, value)
            book.today = None
            self.assertIs(book.set_today(value=value), None)
            self.assertEqual(book.today, value)
        self.assertEqual(book.deeds, 2)

    def test_refused(self):
        book = Book(Found("a", 10, True), Agreed("a", 3, "b", 11), r=("a", 9))
        book.today = 20

        def assign(value):
            book.today = value

        for put in (assign, book.set_today):
            for value in [True, False, "3", *STRANGE]:
                self.refused(lambda: put(value), BadMoment, value)
            for value in (0, 9, 10):
                self.refused(lambda: put(value), Later, 11)
            self.assertEqual((book.today, book.deeds), (20, 3))
        book["r"] = ("a", 20)
        self.refused(lambda: assign(19), Later, 20)

    def test_what_comes_later(self):
        book = Book()
        book.today = 5
        self.assertEqual(book.put(Begun("a", 5)), 0)
        self.refused(lambda: book.put(Begun("a", 6)), Later, 6)
        self.refused(lambda: book.put(Agreed("a", 6, "b", 3)), Later, 6)
        self.assertEqual([book.put(Trusted("a")), book.put(Agreed("a", 5, "b", 5))], [1, 2])
        self.refused(lambda: book.__setitem__("r", ("a", 6)), Later, 6)
        book["r"] = ("a", 5)
        self.assertEqual(book.deeds, 4)
        book.today = None
        self.assertEqual(book.put(Begun("a", 6)), 3)

    def test_what_is_gone_counts_no_more(self):
        book = Book(Found("a", 10, True), r=("a", 12))
        self.refused(lambda: book.set_today(5), Later, 12)
        book.drop("r")
        self.refused(lambda: book.set_today(5), Later, 10)
        book -= 0
        book.set_today(0)
        self.assertEqual(book.today, 0)

    def test_trusted_has_no_moment(self):
        book = Book(Trusted("a"))
        book.set_today(0)
        self.assertEqual((book.today, book.put(Trusted("b"))), (0, 1))


class Known(Case):
    def made(self):
        book = Book(Found("a", 10, True), Trusted("b"), r=("a", 5))
        book -= 0
        book["r"] = ("b", 6)
        book += Begun("a", 7)
        book.drop("r")
        book.today = 30
        return book

    def test_each_n(self):
        book = self.made()
        found, trusted, begun = (0, "found a 10 sound"), (1, "trusted b"), (2, "begun a 7")
        states = [
            ([], {}), ([found], {}), ([found, trusted], {}), ([found, trusted], {"r": ("a", 5)}), ([trusted], {"r": ("a", 5)}),
            ([trusted], {"r": ("b", 6)}), ([trusted, begun], {"r": ("b", 6)}), ([trusted, begun], {}),
        ]
        self.assertEqual(book.deeds, 7)
        for n, (rows, records) in enumerate(states):
            self.assertEqual(state(book.known(n)), (rows, records, None, n))
            self.assertEqual(state(book.known(n=n)), (rows, records, None, n))
            self.assertEqual(whole(book.known(n))[1], whole(book)[1][:n + 1])

    def test_numbers_go_on(self):
        book = self.made()
        for n, number in ((0, 0), (1, 1), (2, 2), (4, 2), (6, 3), (7, 3)):
            self.assertEqual(book.known(n).put(Trusted("c")), number)

    def test_refused(self):
        book = self.made()
        for value in [None, True, False, -1, 8, "0", *STRANGE]:
            self.refused(lambda: book.known(value), NoDeed, value)
        self.refused(lambda: Book().known(1), NoDeed, 1)

    def test_books_apart(self):
        book = self.made()
        before = whole(book)
        older = book.known(3)
        older -= 1
        older["q"] = ("c", 4)
        older.today = 10
        self.assertEqual(whole(book), before)
        later = whole(older)
        book += Trusted("c")
        book -= 1
        self.assertEqual(whole(older), later)

    def test_twin(self):
        book = self.made()
        twin = book.twin()
        self.assertIsNot(twin, book)
        self.assertEqual(whole(twin), whole(book))
        self.assertEqual((twin.today, twin.put(Trusted("c")), book.put(Found("c", 4, True))), (30, 3, 3))
        twin.today = None
        self.assertEqual((book.today, str(book.row_of(3)), str(twin.row_of(3))), (30, "found c 4 sound", "trusted c"))


class Trials(Case):
    def test_behind_the_block_all_is_as_before(self):
        book = Book(Found("a", 10, True), r=("a", 5))
        book.today = 20
        before = whole(book)
        with book.trial() as same:
            self.assertIs(same, book)
            self.assertEqual(whole(same), before)
            same += Trusted("b")
            same -= 0
            same["r"] = ("b", 7)
            same["q"] = ("b", 8)
            same.drop("r")
            same.today = None
            self.assertEqual(state(book), ([(1, "trusted b")], {"q": ("b", 8)}, None, 7))
        self.assertEqual(whole(book), before)
        self.assertEqual(book.put(Trusted("c")), 1)

    def test_nested(self):
        book = Book(Trusted("a"))
        with book.trial() as one:
            one += Trusted("b")
            inner = whole(book)
            with one.trial() as two:
                two += Trusted("c")
                self.assertEqual(len(book), 3)
            self.assertEqual(whole(book), inner)
            one -= 1
        self.assertEqual(state(book), ([(0, "trusted a")], {}, None, 1))

    def test_begins_with_the_block(self):
        book = Book(Trusted("a"))
        trial = book.trial()
        book += Trusted("b")
        with trial:
            book -= 0
        self.assertEqual(state(book), ([(0, "trusted a"), (1, "trusted b")], {}, None, 2))

    def test_an_error_goes_on(self):
        book = Book(Trusted("a"))
        before = whole(book)
        with self.assertRaises(NoRow):
            with book.trial() as same:
                same += Trusted("b")
                same -= 7
        self.assertEqual(whole(book), before)
        with self.assertRaises(ZeroDivisionError):
            with book.trial():
                book -= 0
                1 // 0
        self.assertEqual(whole(book), before)

    def test_tried(self):
        book = Book(Trusted("a"))
        before = whole(book)
        seen = []

        def ask(same):
            seen.append(same is book)
            same += Trusted("b")
            return len(same), same.tried(lambda again: again.put(Trusted("c"))), len(same)

        self.assertEqual((book.tried(ask), seen), ((2, 2, 2), [True]))
        self.assertEqual(book.tried(ask=lambda same: None), None)
        self.assertEqual(whole(book), before)
        with self.assertRaises(NoRow):
            book.tried(lambda same: same.row_of(9))
        self.assertEqual(whole(book), before)

    def test_nothing_of_a_trial_is_left_in_other_books(self):
        book = Book(Trusted("a"))
        with book.trial() as same:
            same += Trusted("b")
            twin = same.twin()
            same += Trusted("c")
        self.assertEqual((len(book), len(twin), twin.deeds), (1, 2, 2))
        book += Found("d", 3, True)
        self.assertEqual([str(row) for number, row in twin.rows()], ["trusted a", "trusted b"])


if __name__ == "__main__":
    unittest.main()
