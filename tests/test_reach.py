"""Which sayings lead to which [11], and rings [12], held against searches of the test's own."""

import itertools
import random
import unittest

from kit import STRANGE, TOP, Case
from made import books, keeping, some_row
from search import are_steps, contrary, distances, is_chain_of, key, next_sayings
from soundtill.books import Book
from soundtill.chains import Chain, Reach
from soundtill.errors import BadPoint, NoTool
from soundtill.rows import (
    Agreed, Backed, Begun, Differed, Failed, Found, Passed, Served, SetBy, Trusted,
)
from soundtill.sayings import Saying


class Made(Case):
    def setUp(self):
        self.book = Book(Agreed("a", 3, "b", 9), Passed("a", 8, "b"), r=("c", 4))

    def test_told(self):
        told = (("a", 3), ("a", 8), ("b", 8), ("b", 9), ("c", 4))
        self.assertEqual(Reach(self.book).told, told)
        more = Reach(self.book, ("b", 7), ("a", 3), ("c", 0), ("b", 7))
        self.assertEqual(more.told, (("a", 3), ("a", 8), ("b", 7), ("b", 8), ("b", 9), ("c", 0), ("c", 4)))
        self.assertIs(type(more.told), tuple)
        self.assertEqual(Reach(book=Book()).told, ())

    def test_bad_point_ahead_of_no_tool(self):
        for value in [None, True, 0, "a3", ("a", -1), ("A", 3), ("a", True), ("a", "3"), ["a", 3], ("sound", 3), ("a", 3, True),
                      *[value for value in STRANGE if value != ("a", 0)]]:
            self.refused(lambda: Reach(self.book, value), BadPoint, value)
            self.refused(lambda: Reach(self.book, ("z", 3), ("a", 3), value, None), BadPoint, value)
        self.refused(lambda: Reach(self.book, ("a", 3), ("z", 3), ("y", 3)), NoTool, "z")
        self.refused(lambda: Reach(Book(), ("a", 3)), NoTool, "a")

    def test_no_tool(self):
        reach = Reach(self.book)
        a, y, z = Saying("a", 3, True), Saying("y", 3, True), Saying("z", 3, True)
        for ask in (reach.leads, reach.shortest):
            self.refused(lambda: ask(z, y), NoTool, "z")
            self.refused(lambda: ask(a, y), NoTool, "y")
            self.refused(lambda: ask(y, a), NoTool, "y")
            ask(one=a, other=a)
        self.refused(lambda: list(reach.reached(z)), NoTool, "z")
        self.refused(lambda: next(reach.reached(one=y)), NoTool, "y")

    def test_the_book_is_copied(self):
        reach = Reach(self.book)
        one, other = Saying("a", 3, True), Saying("a", 8, True)
        before = str(reach.shortest(one, other)), [str(saying) for saying in reach.reached(one)]
        self.book -= 0
        self.book += Begun("a", 5)
        self.book.drop("r")
        self.book += Found("a", 1, False)
        self.assertEqual((str(reach.shortest(one, other)), [str(saying) for saying in reach.reached(one)]), before)
        self.assertEqual((len(reach.told), reach.leads(one, other), Reach(self.book).leads(one, other)), (5, True, False))
        self.assertIs(reach.ring(), None)
        self.assertEqual(len(reach.shortest(Saying("c", 9, True), Saying("c", 4, True))), 1)

    def test_the_book_stays(self):
        before = str(self.book), self.book.deeds
        reach = Reach(self.book)
        reach.ring()
        list(reach.reached(Saying("a", 3, True)))
        self.assertEqual((str(self.book), self.book.deeds), before)

    def test_lives_part_the_time_steps(self):
        reach = Reach(Book(Begun("a", 5), r=("a", 3)))
        for one, other, leads in ((4, 3, True), (5, 3, False), (5, 4, False), (9, 5, True), (4, 0, True), (5, 5, False), (3, 4, False)):
            self.assertIs(reach.leads(Saying("a", one, True), Saying("a", other, True)), leads)
            self.assertIs(reach.leads(Saying("a", other, False), Saying("a", one, False)), leads)
            self.assertIs(reach.leads(Saying("a", one, True), Saying("a", other, False)), False)

    def test_rows_of_each_kind(self):
        for row, one, other in (
            (SetBy("a", 7, "b"), "a 7 sound", "b 7 sound"), (SetBy("a", 7, "b"), "b 7 unsound", "a 7 unsound"),
            (Found("a", 7, True), "a 7 unsound", "a 7 sound"), (Found("a", 7, False), "a 7 sound", "a 7 unsound"),
            (Trusted("a"), f"a {TOP} unsound", f"a {TOP} sound"), (Passed("a", 7, "b"), "b 7 sound", "a 7 sound"),
            (Failed("a", 7, "b"), "b 7 sound", "a 7 unsound"), (Failed("a", 7, "a"), "a 7 sound", "a 7 unsound"),
            (Agreed("a", 7, "b", 3), "a 7 sound", "b 3 sound"), (Agreed("a", 7, "b", 3), "b 3 sound", "a 7 sound"),
            (Differed("a", 7, "b", 3), "b 3 sound", "a 7 unsound"), (Served("a", 7, "b", 3), "b 3 unsound", "a 7 sound"),
            (Backed("a", 7, "b", 3), "a 7 sound", "b 3 sound"), (Backed("a", 7, "a", 7), "a 7 sound", "a 7 sound"),
        ):
            chain = Reach(Book(Begun("q", 1), row)).shortest(Saying.read(one), Saying.read(other))
            self.assertEqual(str(chain), f"{one}, {other} by 1")
        self.assertIs(Reach(Book(Begun("a", 7))).leads(Saying("a", 7, True), Saying("a", 7, True)), False)


class Searched(Case):
    """Small books, with a search of the test's own, and a large one."""

    def some(self):
        yield from books(120, 11)
        yield from books(60, 12, tools="ab", top=3, most=9)
        yield from books(20, 13, tools="abcd", top=9, most=14)

    def chain_of(self, book, chain, one, other):
        """The chain is one of the book, from the one saying to the other one."""
        self.assertIs(type(chain), Chain)
        self.assertTrue(is_chain_of(book, chain, Saying(*one), Saying(*other)))

    def test_shortest_and_leads(self):
        source = random.Random(14)
        for book in self.some():
            if not book.tools:
                continue
            untold = [(source.choice(book.tools), source.randint(0, 11)) for _ in range(2)]
            ahead = next_sayings(book, sorted({*book.told, *untold}))
            reach = Reach(book, *source.choice([(), untold[:1], untold]))
            sayings = sorted(ahead)
            for one in sayings if len(sayings) < 12 else source.sample(sayings, 8):
                steps = distances(ahead, one)
                for other in sayings:
                    ends = Saying(*one), Saying(*other)
                    self.assertIs(reach.leads(*ends), other in steps)
                    chain = reach.shortest(*ends)
                    if other in steps:
                        self.chain_of(book, chain, one, other)
                        self.assertEqual(len(chain), steps[other])
                        self.chain_of(book, ~chain, contrary(other), contrary(one))
                    else:
                        self.assertIs(chain, None)

    def test_reached_in_its_order(self):
        source = random.Random(15)
        for book in self.some():
            if not book.tools:
                continue
            point = source.choice(book.tools), source.randint(0, 11)
            ahead = next_sayings(book, sorted({*book.told, point}))
            for told in (False, True):
                reach = Reach(book, point) if told else Reach(book)
                for one in [(*point, True), (*point, False), *source.sample(sorted(ahead), 2)]:
                    steps = distances(ahead, one)
                    expected = sorted([(steps[other], other) for other in steps if other[:2] in reach.told])
                    found = [key(saying) for saying in reach.reached(Saying(*one))]
                    self.assertEqual(found, [other for count, other in expected])
                    half = reach.reached(Saying(*one))
                    self.assertEqual([key(saying) for saying in itertools.islice(half, 2)], found[:2])
                    self.assertEqual([key(saying) for saying in reach.reached(Saying(*one))], found)
                    self.assertEqual([key(saying) for saying in half], found[2:])

    def test_ring_exactly_if_no_history_keeps_the_book(self):
        contradicted = 0
        for book in self.some():
            ring = Reach(book).ring()
            self.assertIs(ring is None, bool(keeping(book)))
            if ring is None:
                continue
            contradicted += 1
            source = key(ring.source)
            self.chain_of(book, ring, source, source)
            on = {key(step.one) for step in ring.steps}
            self.assertTrue(any(contrary(one) in on for one in on))
            # No point that is not told makes a ring shorter: one more point in each gap shows it.
            gaps = {(tool, moment + more) for tool, moment in book.told for more in (1, -1) if 0 <= moment + more <= TOP}
            ahead = next_sayings(book, sorted({*book.told, *gaps}))
            rounds = []
            for one in ahead:
                there, back = distances(ahead, one), distances(ahead, contrary(one))
                if contrary(one) in there and one in back:
                    rounds.append(there[contrary(one)] + back[one])
            self.assertEqual(len(ring), min(rounds))
        self.assertGreater(contradicted, 20)

    def test_a_chain_keeps_truths(self):
        for book in books(40, 16):
            kept = keeping(book)
            reach = Reach(book)
            for point in book.told:
                for truth in (True, False):
                    one = Saying(*point, truth)
                    for other in reach.reached(one):
                        chain = reach.shortest(one, other)
                        self.assertTrue(all(chain(history) is None for history in kept))
                        self.assertTrue(all(history(other) for history in kept if history(one)))

    def test_many_points(self):
        source = random.Random(18)
        rows = [some_row(source, [f"t{k}" for k in range(12)], 50) for _ in range(80)]
        book = Book(*rows, **{f"r{k}": (f"t{k % 12}", k * 7 % 90) for k in range(60)})
        points = [(f"t{k % 12}", k * 11 % 90) for k in range(60)]
        reach = Reach(book, *points)
        self.assertEqual(reach.told, tuple(sorted({*book.told, *points})))
        ring = reach.ring()
        self.assertTrue(are_steps(book, ring))
        self.assertEqual(key(ring.source), key(ring.goal))
        one = reach.told[len(reach.told) // 2]
        steps = distances(next_sayings(book, reach.told), (*one, True))
        self.assertEqual([key(saying) for saying in reach.reached(Saying(*one, True))],
                         [other for count, other in sorted([(steps[other], other) for other in steps])])


class Large(Case):
    def made(self, order):
        """A book of 69 rows about twelve tools in which one chain alone leads through all of them, and its ends."""
        links = [(f"t{k % 12}", 10 * (k // 12) + 5) for k in range(70)]
        # Each tool is entered one moment above the one at which it is left. As a tool is entered
        # later each time, a time step leads back to what the chain has passed, never ahead.
        rows = [Backed(*one, other, later + 1) for one, (other, later) in zip(links, links[1:])]
        return Book(*[rows[k] for k in order]), Saying(*links[0], True), Saying(*links[-1], True)

    def test_one_chain_through_all_rows(self):
        for order in (list(range(69)), list(range(68, -1, -1)), random.Random(17).sample(range(69), 69)):
            book, one, other = self.made(order)
            self.assertEqual((len(book), len(book.tools)), (69, 12))
            reach = Reach(book)
            chain = reach.shortest(one, other)
            self.assertEqual((len(chain), chain.numbers), (138, tuple(range(69))))
            self.assertEqual([order[number] for number in [step.reason for step in chain.steps][::2]], list(range(69)))
            self.assertEqual(~chain, reach.shortest(~other, ~one))
            self.assertEqual((reach.leads(one, other), reach.ring()), (True, None))
            for number in (0, 30, 68):
                fewer = book.twin()
                fewer -= number
                self.assertIs(Reach(fewer).leads(one, other), False)

    def test_a_ring_needs_all_rows(self):
        book, one, other = self.made(range(69))
        book += Found(*one.point, True)
        self.assertIs(Reach(book).ring(), None)
        book += Found(*other.point, False)
        ring = Reach(book).ring()
        self.assertEqual(ring.numbers, tuple(range(71)))
        for number in (0, 30, 68, 69, 70):
            fewer = book.twin()
            fewer -= number
            self.assertIs(Reach(fewer).ring(), None)


if __name__ == "__main__":
    unittest.main()
