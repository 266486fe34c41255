"""Lookers at steps, chains, rings and histories [11] [12]."""

import itertools
import random

from kit import STRANGE, TOP, Case
from made import all_histories, books, kept_book, true_in
from papers import goes, keeps
from search import is_time_step, key, row_steps
from soundtill.books import Book
from soundtill.chains import Chain, Reach, Step
from soundtill.entries import Entry
from soundtill.histories import History
from soundtill.judge import Judge, Sure
from soundtill.lives import Lives
from soundtill.lookers import Looker
from soundtill.rows import Agreed, Begun, Differed, Failed, Found, Passed, SetBy, Trusted
from soundtill.sayings import Saying

LOOP = Agreed("a", 3, "b", 9)


def said(text):
    return Saying.read(text)


def step(text, reason):
    one, other = text.split(", ")
    return Step(said(one), said(other), reason)


def chain_of(first, *ends):
    """The chain with these ends, each a text of a saying and a reason."""
    steps, here = [], first
    for end, reason in ends:
        steps.append(Step(said(here), said(end), reason))
        here = end
    return Chain(*steps)


def around(count):
    """A chain of so many steps by the one row of Book(LOOP)."""
    places = ["a 3 sound", "b 9 sound"]
    return chain_of(places[0], *[(places[at % 2], 0) for at in range(1, count + 1)])


def sayings_about(points):
    return [Saying(*point, truth) for point in points for truth in (False, True)]


class Steps(Case):
    def test_against_the_words_of_the_document(self):
        source, seen = random.Random(301), []
        for book in itertools.chain(books(60, 302), books(40, 303, tools="ab", top=3, most=9)):
            looker, lives, by_rows = Looker(book), book.lives, row_steps(book)
            points = [*book.told, *[(tool, moment) for tool in [*book.tools, "other"] for moment in (0, 4, 7, TOP)]]
            sayings = sayings_about(points)
            numbers = range(12)
            for one, other, reason in itertools.product(source.sample(sayings, min(9, len(sayings))), sayings, ["time", *numbers]):
                if reason == "time":
                    is_step = one.tool in book.tools and other.tool in book.tools and is_time_step(lives, key(one), key(other))
                else:
                    is_step = reason in by_rows.get((key(one), key(other)), ())
                self.assertIs(looker.is_step(Step(one, other, reason)), is_step)
                seen.append((reason == "time", is_step))
        self.assertGreater(min(seen.count((True, True)), seen.count((False, True))), 100)

    def test_by_time(self):
        looker = Looker(Book(Begun("a", 7), Found("b", 5, True)))
        right = ["a 5 sound, a 3 sound", "a 6 sound, a 0 sound", "a 3 unsound, a 5 unsound", "a 0 unsound, a 6 unsound",
                 f"a {TOP} sound, a 7 sound", f"a 8 unsound, a {TOP} unsound", f"b {TOP} sound, b 0 sound"]
        wrong = ["a 3 sound, a 5 sound", "a 5 unsound, a 3 unsound", "a 3 sound, a 3 sound", "a 3 unsound, a 3 unsound", "a 7 sound, a 6 sound",
                 "a 6 unsound, a 7 unsound", "a 5 sound, b 3 sound", "a 5 sound, a 3 unsound", "a 3 unsound, a 5 sound", "a 3 sound, a 3 unsound",
                 "c 5 sound, c 3 sound", "c 3 unsound, c 5 unsound", "b 5 unsound, b 5 sound"]
        for text in right:
            self.assertIs(looker.is_step(step(text, "time")), True, text)
            self.assertIs(looker.is_step(~step(text, "time")), True, text)
        for text in wrong:
            self.assertIs(looker.is_step(step(text, "time")), False, text)
            self.assertIs(looker.is_step(~step(text, "time")), False, text)
        for text in right + wrong[:-1]:
            self.assertIs(looker.is_step(step(text, 0)), False, text)

    def test_by_rows(self):
        book = Book(LOOP, LOOP, Passed("a", 8, "b"), Found("a", 1, True), Differed("a", 4, "a", 4))
        book -= 0
        book += SetBy("c", 6, "b")
        looker = Looker(book)
        for text, number in (
            ("a 3 sound, b 9 sound", 1), ("b 9 unsound, a 3 unsound", 1), ("a 3 unsound, b 9 unsound", 1), ("b 9 sound, a 3 sound", 1),
            ("b 8 sound, a 8 sound", 2), ("a 8 unsound, b 8 unsound", 2), ("a 1 unsound, a 1 sound", 3), ("a 4 sound, a 4 unsound", 4),
            ("c 6 sound, b 6 sound", 5), ("b 6 unsound, c 6 unsound", 5),
        ):
            for reason in range(8):
                self.assertIs(looker.is_step(step(text, reason)), reason == number)
            self.assertIs(looker.is_step(step(text, "time")), False)
        for text, number in (("a 8 sound, b 8 sound", 2), ("b 8 unsound, a 8 unsound", 2), ("a 1 sound, a 1 unsound", 3), ("a 3 sound, b 9 unsound", 1),
                             ("a 4 unsound, a 4 sound", 4), ("b 6 sound, c 6 sound", 5), ("a 1 sound, a 1 sound", 3), ("b 9 sound, b 9 unsound", 1)):
            self.assertIs(looker.is_step(step(text, number)), False)

    def test_a_passed_check_by_itself(self):
        looker = Looker(Book(Passed("a", 5, "a"), Failed("a", 6, "a")))
        for text, reason, is_right in (("a 5 sound, a 5 sound", 0, True), ("a 5 unsound, a 5 unsound", 0, True), ("a 5 sound, a 5 unsound", 0, False),
                                       ("a 6 sound, a 6 unsound", 1, True), ("a 6 unsound, a 6 sound", 1, False)):
            self.assertIs(looker.is_step(step(text, reason)), is_right)

    def test_any_values(self):
        book = Book(LOOP, r=("a", 5))
        looker = Looker(book)
        right = around(1)
        for value in [None, True, False, 0, 3, "time", said("a 3 sound"), right, book, looker, Judge(book), Entry("a", 3, "b"), (right[0],), [right[0]], *STRANGE]:
            self.assertIs(looker.is_step(value), False)
            if value is not right:
                self.assertIs(looker.is_chain(value, right.source, right.goal), False)
            self.assertIs(looker.is_ring(value), False)
            self.assertIs(looker.is_history(value), False)
            self.assertIs(looker(value), False)
        for value in (right[0], History.always(book.lives)):
            self.assertIs(looker(value), False)
            self.assertIs(looker.is_chain(value, right.source, right.goal), False)
            self.assertIs(looker.is_ring(value), False)
        self.assertIs(looker.is_history(right[0]), False)
        self.assertIs(looker.is_step(History.always(book.lives)), False)


class Chains(Case):
    def test_shortest_chains_and_others(self):
        source, seen = random.Random(304), []
        for book in itertools.chain(books(80, 305), books(40, 306, tools="ab", top=3, most=9)):
            if not book.tools:
                continue
            looker, reach = Looker(book), Reach(book)
            sayings = sayings_about([*book.told, *[(source.choice(book.tools), source.randint(0, 9)) for _ in range(3)]])
            for _ in range(30):
                one, other = source.choice(sayings), source.choice(sayings)
                chain = reach.shortest(one, other)
                if chain is None:
                    continue
                self.assertIs(looker.is_chain(chain, one, other), True)
                self.assertIs(looker.is_chain(~chain, ~other, ~one), True)
                for thing, start, end in self.otherwise(chain, source, sayings):
                    is_chain = goes(book, thing, start, end)
                    self.assertIs(looker.is_chain(thing, start, end), is_chain)
                    seen.append(is_chain)
        self.assertGreater(min(seen.count(True), seen.count(False)), 300)

    def otherwise(self, chain, source, sayings):
        one, other = chain.source, chain.goal
        yield chain, other, one
        yield chain, ~one, other
        yield chain, one, ~other
        yield chain, source.choice(sayings), other
        yield chain, one, source.choice(sayings)
        yield ~chain, one, other
        yield ~chain, ~other, ~one
        at = source.randrange(len(chain))
        for reason in ("time", 0, 1, 2, 3, 11):
            steps = list(chain.steps)
            steps[at] = Step(steps[at].one, steps[at].other, reason)
            yield Chain(*steps), one, other
        if at:
            middle = source.choice(sayings)
            steps = list(chain.steps)
            steps[at - 1:at + 1] = [Step(steps[at - 1].one, middle, steps[at - 1].reason), Step(middle, steps[at].other, steps[at].reason)]
            yield Chain(*steps), one, other
            yield Chain(*chain.steps[at:]), chain[at].one, other
            yield Chain(*chain.steps[:at]), one, chain[at].one
            yield Chain(*chain.steps[at:]), one, other

    def test_each_step_exchanged(self):
        looker = Looker(Book(LOOP, Passed("a", 8, "b")))
        told = [("b 9 sound", 0), ("b 8 sound", "time"), ("a 8 sound", 1), ("a 5 sound", "time")]
        right = chain_of("a 3 sound", *told)
        self.assertIs(looker.is_chain(thing=right, one=said("a 3 sound"), other=said("a 5 sound")), True)
        for at, (end, reason) in enumerate(told):
            for other in {"time", 0, 1, 2} - {reason}:
                changed = told[:at] + [(end, other)] + told[at + 1:]
                self.assertIs(looker.is_chain(chain_of("a 3 sound", *changed), right.source, right.goal), False)

    def test_turned_between_the_contraries(self):
        looker = Looker(Book(Found("a", 5, False)))
        there = chain_of("a 7 sound", ("a 5 sound", "time"), ("a 5 unsound", 0), ("a 7 unsound", "time"))
        for one, other, is_right in (("a 7 sound", "a 7 unsound", True), ("a 7 unsound", "a 7 sound", False)):
            self.assertIs(looker.is_chain(there, said(one), said(other)), is_right)
            self.assertIs(looker.is_chain(~there, said(one), said(other)), is_right)

    def test_how_many_steps(self):
        book = Book(LOOP)
        for most in (1, 2, 3, 7):
            for count in (1, 2, most - 1, most, most + 1, most + 2):
                if count:
                    for looker in (Looker(book, most), Looker(book, most=most), Looker(book=book, most=most)):
                        chain = around(count)
                        self.assertIs(looker.is_chain(chain, chain.source, chain.goal), count <= most)
        looker = Looker(book)
        for count, is_right in ((1999, True), (2000, True), (2001, False)):
            chain = around(count)
            self.assertIs(looker.is_chain(chain, chain.source, chain.goal), is_right)
        long = around(2001)
        self.assertIs(Looker(book, 2001).is_chain(long, long.source, long.goal), True)
        for chain in (around(1), around(2), around(3)):
            self.assertIs(Looker(book, 1).is_step(chain[0]), True)

    def test_a_tool_that_the_book_does_not_have(self):
        chain = chain_of("c 9 sound", ("c 5 sound", "time"))
        for book, is_right in ((Book(LOOP), False), (Book(), False), (Book(LOOP, r=("c", 100)), True), (Book(Begun("c", 7)), False), (Book(Begun("c", 4)), True)):
            self.assertIs(Looker(book).is_chain(chain, chain.source, chain.goal), is_right)

    def test_the_book_is_copied(self):
        book = Book(LOOP)
        looker, chain, always = Looker(book), around(1), History.always(book.lives)
        book -= 0
        book += Begun("a", 2)
        book["r"] = ("c", 5)
        self.assertEqual([looker.is_step(chain[0]), looker.is_chain(chain, chain.source, chain.goal), looker.is_history(always)], [True] * 3)
        other = Looker(book)
        self.assertEqual([other.is_step(chain[0]), other.is_chain(chain, chain.source, chain.goal), other.is_history(always)], [False] * 3)
        self.assertEqual(len(book), 1)


class Rings(Case):
    def test_of_contradicted_books(self):
        source, count = random.Random(307), 0
        for book in itertools.chain(books(150, 308, most=9), books(60, 309, tools="ab", top=3, most=9)):
            ring, looker = Reach(book).ring(), Looker(book)
            if ring is None:
                self.check_loops(book, looker)
                continue
            count += 1
            for at in range(len(ring)):
                begun = Chain(*ring.steps[at:], *ring.steps[:at])
                self.assertIs(looker.is_ring(begun), True)
                self.assertIs(looker.is_ring(~begun), True)
                self.assertIs(looker.is_ring(begun + begun), True)
                if len(ring) > 1:
                    self.assertIs(looker.is_ring(Chain(*begun.steps[1:])), False)
                    self.assertIs(looker.is_ring(Chain(*begun.steps[:-1])), False)
            self.assertIs(Looker(book, len(ring)).is_ring(ring), True)
            self.assertIs(Looker(book, max(1, len(ring) - 1)).is_ring(ring), len(ring) == 1)
            at = source.randrange(len(ring))
            for reason in ("time", 0, 1, 2, 3, 30):
                steps = list(ring.steps)
                steps[at] = Step(steps[at].one, steps[at].other, reason)
                self.assertIs(looker.is_ring(Chain(*steps)), looker.is_step(steps[at]))
            self.assertIs(looker(ring), False)
        self.assertGreater(count, 30)

    def check_loops(self, book, looker):
        """No chain of a book that is not contradicted is a ring, also one that ends where it begins."""
        reach = Reach(book)
        for saying in sayings_about(book.told):
            loop = reach.shortest(saying, saying)
            if loop is not None:
                self.assertIs(looker.is_chain(loop, saying, saying), True)
                self.assertIs(looker.is_ring(loop), False)

    def test_loops_without_contraries(self):
        for book in (Book(LOOP), Book(LOOP, Found("a", 3, True), Found("a", 3, False))):
            looker = Looker(book)
            for count in (2, 4, 6):
                self.assertIs(looker.is_chain(around(count), said("a 3 sound"), said("a 3 sound")), True)
                self.assertIs(looker.is_ring(around(count)), False)
                self.assertIs(looker.is_ring(around(count - 1)), False)
        ring = chain_of("a 3 sound", ("a 3 unsound", 2), ("a 3 sound", 1))
        self.assertIs(Looker(book).is_ring(ring), True)
        self.assertIs(Looker(Book(LOOP)).is_ring(ring), False)

    def test_a_loop_through_what_is_said_twice(self):
        book = Book(Found("a", 3, True), Found("a", 3, False), LOOP)
        loop = chain_of("b 9 sound", ("a 3 sound", 2), ("a 3 unsound", 1), ("a 3 sound", 0), ("b 9 sound", 2))
        for at in range(4):
            self.assertIs(Looker(book).is_ring(Chain(*loop.steps[at:], *loop.steps[:at])), True)
        self.assertIs(Looker(book, 3).is_ring(loop), False)

    def test_a_chain_that_passes_contraries_but_does_not_end_where_it_begins(self):
        chain = chain_of("a 7 sound", ("a 5 sound", "time"), ("a 5 unsound", 0), ("a 7 unsound", "time"))
        looker = Looker(Book(Found("a", 5, False)))
        self.assertIs(looker.is_chain(chain, chain.source, chain.goal), True)
        self.assertIs(looker.is_ring(chain), False)


class Histories(Case):
    def test_against_each_pair(self):
        seen = []
        for book in books(60, 310, tools="ab", most=5):
            looker = Looker(book)
            for history in itertools.islice(all_histories(book), 200):
                self.assertIs(looker.is_history(history), keeps(book, history))
                seen.append(keeps(book, history))
        self.assertGreater(min(seen.count(True), seen.count(False)), 300)

    def test_a_turn_otherwise(self):
        source, seen = random.Random(311), []
        for _ in range(60):
            book = kept_book(source)
            looker, history = Looker(book), Judge(book).history_with()
            self.assertIs(looker.is_history(history), True)
            for tool, beginning in book.lives.listed:
                last = book.lives.last_of((tool, beginning))
                for turn in [None, *[turn for turn in (beginning, beginning + 1, beginning + 3, last) if turn <= last]]:
                    other = history.with_turn(tool, beginning, turn)
                    self.assertIs(looker.is_history(other), keeps(book, other))
                    seen.append(keeps(book, other))
        self.assertGreater(min(seen.count(True), seen.count(False)), 100)

    def test_other_lives(self):
        book = Book(Found("a", 5, True), Begun("a", 7), r=("b", 3))
        looker = Looker(book)
        self.assertIs(looker.is_history(History.always(book.lives)), True)
        for begun in ({"a": [7]}, {"a": [7], "b": [], "c": []}, {"a": [], "b": []}, {"a": [7, 9], "b": []}, {"a": [8], "b": []}, {"a": [7], "b": [1]}, {}, {"a": [7], "c": []}):
            self.assertIs(looker.is_history(History.always(Lives(begun))), False)
        self.assertIs(Looker(Book()).is_history(History(Lives({}), {})), True)
        self.assertIs(Looker(Book(Begun("a", 7))).is_history(History.always(Lives({"a": [7]}))), True)

    def test_contradicted_books(self):
        count = 0
        for book in books(80, 312, tools="ab", most=8):
            if Reach(book).ring() is not None:
                count += 1
                self.assertFalse(any(Looker(book).is_history(history) for history in all_histories(book)))
        self.assertGreater(count, 10)

    def test_untold_turns(self):
        book = Book(Trusted("s"), Failed("a", 10, "s"))
        looker = Looker(book)
        for turn, is_right in ((0, True), (5, True), (10, True), (11, False), (TOP, False), (None, False)):
            history = History(book.lives, {("a", 0): turn, ("s", 0): None})
            self.assertIs(looker.is_history(history), is_right)
            self.assertEqual(true_in(history, said("a 10 unsound")), is_right)
            self.assertIs(looker(Sure(said("a 10 unsound"), history)), False)
