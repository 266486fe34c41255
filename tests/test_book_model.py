"""Many deeds, held against a plain list of what should stand behind each of them."""

import random
import unittest

from kit import Case
from made import some_row
from soundtill.books import Book


class Model:
    """What a book should hold: the rows by numbers, the records, today, and what it held behind each deed."""

    def __init__(self):
        self.rows, self.records, self.next, self.today = {}, {}, 0, None
        self.behind = [self.held()]

    def held(self):
        return [(number, str(row)) for number, row in self.rows.items()], dict(self.records)

    def done(self):
        self.behind.append(self.held())

    def put(self, row):
        self.rows[self.next] = row
        self.next += 1
        self.done()


def held(book):
    return [(number, str(row)) for number, row in book.rows()], book.records


class Deeds(Case):
    def step(self, source, book, model):
        """One deed, done to the book and to the model."""
        kind = source.randrange(5)
        if kind < 2 and len(model.rows) < 20:
            row = some_row(source, "abcd", 9)
            self.assertEqual(book.put(row), model.next)
            model.put(row)
        elif kind == 2 and model.rows:
            number = source.choice(list(model.rows))
            book -= number
            del model.rows[number]
            model.done()
        elif kind == 3 and model.records:
            name = source.choice(list(model.records))
            book.drop(name)
            del model.records[name]
            model.done()
        else:
            name, point = f"r{source.randrange(5)}", (source.choice("abcd"), source.randrange(9))
            book[name] = point
            model.records[name] = point
            model.done()

    def looked_at(self, book, model):
        self.assertEqual(held(book), model.held())
        self.assertEqual((book.deeds, len(book)), (len(model.behind) - 1, len(model.rows)))
        for n, what in enumerate(model.behind):
            self.assertEqual(held(book.known(n)), what)

    def test_deeds(self):
        for seed in range(12):
            source, book, model = random.Random(seed), Book(), Model()
            for _ in range(40):
                self.step(source, book, model)
                self.assertEqual(held(book), model.held())
            self.looked_at(book, model)
            with book.trial() as same:
                twin = book.twin()
                inner = Model()
                inner.rows, inner.records, inner.next = dict(model.rows), dict(model.records), model.next
                inner.behind = list(model.behind)
                for _ in range(15):
                    self.step(source, same, inner)
                self.looked_at(same, inner)
                self.looked_at(twin, model)
            self.looked_at(book, model)
            for _ in range(5):
                self.step(source, book, model)
            self.looked_at(book, model)


if __name__ == "__main__":
    unittest.main()
