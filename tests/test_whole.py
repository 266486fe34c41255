"""What holds of the words and turns of whole books: late beginnings, moved, renamed and joined books, trials."""

import itertools
import random

from kit import TOP, Case
from made import books, keeping, some_book, some_row
from soundtill.books import Book
from soundtill.errors import Contradicted, TillError
from soundtill.every import count, histories
from soundtill.judge import Judge
from soundtill.rows import Begun, Found, Row, SetBy
from soundtill.sayings import Saying
from soundtill.turns import turns_of


def words(book, points):
    """The words of both sayings of each point, "contradicted" if the book is."""
    try:
        judge = Judge(book, *points)
    except Contradicted:
        return "contradicted"
    return [judge(Saying(*point, truth)) for point in points for truth in (False, True)]


def turns(book):
    """The turns of each life, "contradicted" if the book is."""
    try:
        judge = Judge(book)
    except Contradicted:
        return "contradicted"
    return {life: str(turns_of(judge, *life)) for life in book.lives.listed}


def mapped(book, new_moment):
    """The book with other moments."""
    rows = [" ".join(str(new_moment(int(word))) if word.isdigit() else word for word in str(row).split(" ")) for number, row in book.rows()]
    return Book(*[Row.read(row) for row in rows], **{name: (tool, new_moment(moment)) for name, (tool, moment) in book.records.items()})


def asked_of(book, source):
    """The told points of a book, and some more."""
    more = [(source.choice(book.tools), source.randint(0, 9)) for _ in range(3)] if book.tools else []
    return sorted({*book.told, *more})


class LateBeginnings(Case):
    def test_put_late_and_taken_back(self):
        source, changed = random.Random(51), 0
        for book in itertools.chain(books(80, 52), books(40, 53, tools="ab", top=4)):
            if not book.tools:
                continue
            points = asked_of(book, source)
            before = words(book, points), turns(book)
            late = source.choice([Begun, SetBy])
            told = (source.choice(book.tools), source.randint(1, 7))
            number = book.put(late(*told) if late is Begun else late(*told, source.choice(book.tools)))
            changed += (words(book, points), turns(book)) != before
            book -= number
            self.assertEqual((words(book, points), turns(book)), before)
        self.assertGreater(changed, 30)

    def test_what_was_sure_may_be_open(self):
        book, points = Book(Found("a", 10, True)), [("a", 5), ("a", 7)]
        self.assertEqual(words(book, points), ["never", "sure", "never", "sure"])
        book += Begun("a", 7)
        self.assertEqual(words(book, points), ["open", "open", "never", "sure"])
        book += Begun("a", 8)
        self.assertEqual(words(book, points), ["open"] * 4)
        book -= 2
        book -= 1
        self.assertEqual(words(book, points), ["never", "sure", "never", "sure"])


class Evidence(Case):
    def test_one_more_row_only_narrows(self):
        source, narrowed = random.Random(54), 0
        for book in books(150, 55):
            if not book.tools or not keeping(book):
                continue
            row = some_row(source, book.tools, 6)
            points = sorted({*asked_of(book, source), *Book(row).told})
            before, lives = words(book, points), {life: turns_of(Judge(book), *life) for life in book.lives.listed}
            if row.begins:
                continue
            book += row
            after = words(book, points)
            if after == "contradicted":
                continue
            for one, other in zip(before, after):
                self.assertTrue(one == other or one == "open")
            for life, whole in lives.items():
                self.assertTrue(turns_of(Judge(book), *life).within(whole))
            narrowed += before != after
        self.assertGreater(narrowed, 20)


class Moved(Case):
    def test_all_moments_moved_by_a_rising_map(self):
        source = random.Random(56)
        for book in books(120, 57):
            points = asked_of(book, source)
            # All moments here are below 12, but for the greatest one, which stays.
            places = sorted(source.sample(range(60), 12)) if source.random() < 0.5 else [0, *sorted(source.sample(range(1, 60), 11))]

            def moved(moment):
                return TOP if moment == TOP else places[moment]

            self.assertEqual(words(mapped(book, moved), [(tool, moved(moment)) for tool, moment in points]), words(book, points))

    def test_moved_by_ticks(self):
        source = random.Random(58)
        for book in books(80, 59):
            points = [point for point in asked_of(book, source) if point[1] < 100]
            self.assertEqual(words(book << 7, [(tool, moment + 7) for tool, moment in points]), words(book, points))

    def test_renamed(self):
        source = random.Random(60)
        for book in books(80, 61):
            points = asked_of(book, source)
            names = dict(zip("abc", source.sample(["a", "b", "c", "std", "x1"], 3)))
            self.assertEqual(words(book.renamed(names), [(names[tool], moment) for tool, moment in points]), words(book, points))
            before = turns(book)
            if before != "contradicted":
                self.assertEqual(turns(book.renamed(names)), {(names[tool], moment): told for (tool, moment), told in before.items()})

    def test_rows_in_another_order(self):
        source = random.Random(62)
        for book in books(80, 63):
            points = asked_of(book, source)
            rows = [row for number, row in book.rows()]
            source.shuffle(rows)
            other = Book(*rows, **book.records)
            self.assertEqual((words(other, points), turns(other)), (words(book, points), turns(book)))

    def test_rows_twice(self):
        for book in books(60, 64):
            twice = Book(*[row for number, row in book.rows()] * 2, **book.records)
            self.assertEqual(turns(twice), turns(book))


class Joined(Case):
    def test_books_about_other_tools(self):
        source, barred = random.Random(65), 0
        for one in books(100, 66, tools="ab", most=5):
            other = some_book(source, tools="cd", most=5)
            other = Book(*[row for number, row in other.rows()], **{f"s{name}": point for name, point in other.records.items()})
            both = one + other
            points = asked_of(one, source), asked_of(other, source)
            told = words(one, points[0]), words(other, points[1])
            if "contradicted" in told:
                barred += 1
                self.assertEqual(words(both, []), "contradicted")
                continue
            self.assertEqual(words(both, [*points[0], *points[1]]), told[0] + told[1])
            self.assertEqual(turns(both), {**turns(one), **turns(other)})
            counts = [len(list(histories(Judge(book)))) for book in (one, other)]
            if counts[0] * counts[1] <= 10000:
                self.assertEqual(count(Judge(both), 10000), counts[0] * counts[1])
        self.assertTrue(5 < barred < 80)


class Trials(Case):
    def test_nested_and_left_by_errors(self):
        source = random.Random(67)
        for book in books(60, 68):
            points = asked_of(book, source)
            before = words(book, points), turns(book)
            with book.trial() as same:
                same += some_row(source, "abc", 6)
                within = words(book, points), turns(book)
                try:
                    with book.trial():
                        for number in [number for number, row in book.rows()]:
                            book -= number
                        book += Found("a", -1, True)
                except TillError:
                    pass
                self.assertEqual((words(book, points), turns(book)), within)
                same.tried(lambda tried: tried.put(Begun("a", 3)))
                self.assertEqual((words(book, points), turns(book)), within)
            self.assertEqual((words(book, points), turns(book)), before)

    def test_a_judge_made_in_a_trial_stays(self):
        book = Book(Found("a", 5, False))
        with book.trial():
            book += Begun("a", 4)
            judge = Judge(book)
        self.assertEqual((judge(Saying("a", 9, True)), len(judge.book)), ("never", 2))
        self.assertEqual(str(turns_of(judge, "a", 0)), "0..3 none")
        self.assertEqual(str(turns_of(Judge(book), "a", 0)), "0..5")
