"""Reports [14] and their form."""

import random

from kit import TOP, Case
from made import keeping, some_book
from soundtill.books import Book
from soundtill.judge import Judge
from soundtill.reports import report
from soundtill.rows import Failed, Found, Trusted


def line(name, tool, moment, word):
    """A line of a report, padded sign by sign."""
    name, tool, moment = name + " " * (8 - len(name)), tool + " " * (8 - len(tool)), " " * (31 - len(str(moment))) + str(moment)
    return " ".join([name, tool, moment, word])


class Report(Case):
    def test_all_lengths(self):
        for length in range(1, 9):
            for moment in (0, 7, 10 ** length, TOP - 1, TOP):
                name, tool = "r" * length, "t" * (9 - length)
                for told, word, counts in ((True, "sound", "sound 1, unsound 0, open 0"), (False, "unsound", "sound 0, unsound 1, open 0"), (None, "open", "sound 0, unsound 0, open 1")):
                    book = Book(*([] if told is None else [Found(tool, moment, told)]), **{name: (tool, moment)})
                    text = report(Judge(book))
                    self.assertEqual(text, line(name, tool, moment, word) + "\n" + counts)
                    self.assertEqual(len(text.split("\n")[0]), 8 + 1 + 8 + 1 + 31 + 1 + len(word))

    def test_by_hand(self):
        book = Book(Trusted("std"), Failed("a", 10, "std"), r2=("a", 10), r10=("a", 9), z=("std", TOP), a1234567=("a", 0))
        text = report(judge=Judge(book))
        self.assertEqual(text.split("\n"), [
            "a1234567 a                                      0 open",
            "r10      a                                      9 open",
            "r2       a                                     10 unsound",
            f"z        std      {TOP} sound",
            "sound 1, unsound 1, open 2",
        ])

    def test_without_records(self):
        for book in (Book(), Book(Trusted("a")), Book(Found("a", 5, True))):
            self.assertEqual(report(Judge(book)), "sound 0, unsound 0, open 0")

    def test_words_by_all_plain_histories(self):
        source, seen = random.Random(411), []
        for _ in range(120):
            book = some_book(source, tools="ab", top=4, most=5)
            for k in range(source.randint(0, 4)):
                book[source.choice(("q", "r10", "r2", "x1234567", "b"))] = (source.choice("ab"), source.randint(0, 5))
            kept = keeping(book)
            if not kept:
                continue
            lines, words = [], []
            for name in sorted(book.records):
                tool, moment = book[name]
                truths = {history[tool, moment] for history in kept}
                words.append("open" if len(truths) == 2 else "sound" if truths == {True} else "unsound")
                lines.append(line(name, tool, moment, words[-1]))
            counts = ", ".join(f"{word} {words.count(word)}" for word in ("sound", "unsound", "open"))
            judge = Judge(book)
            self.assertEqual(report(judge), "\n".join([*lines, counts]))
            self.assertEqual(list(judge.each_record()), list(zip(sorted(book.records), words)))
            seen += words
        for word in ("sound", "unsound", "open"):
            self.assertGreater(seen.count(word), 20)

    def test_later_changes_of_the_book(self):
        book = Book(r=("a", 5))
        judge = Judge(book)
        book += Found("a", 5, True)
        book["q"] = ("a", 3)
        self.assertEqual(report(judge), line("r", "a", 5, "open") + "\nsound 0, unsound 0, open 1")

    def test_sixty_records(self):
        book = Book(Found("a", 30, True), **{f"r{k}": ("a", k) for k in range(60)})
        lines = report(Judge(book)).split("\n")
        self.assertEqual((len(lines), lines[-1]), (61, "sound 31, unsound 0, open 29"))
        self.assertEqual([told[:8].strip() for told in lines[:-1]], sorted(book.records))
