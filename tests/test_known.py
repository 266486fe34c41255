"""What was known of a saying behind each deed [20] [22]."""

import itertools
import random

from kit import Case
from made import some_row, plain_histories
from soundtill.books import Book
from soundtill.errors import TooMany
from soundtill.judge import Judge
from soundtill.known import changes, known_words, since
from soundtill.rows import Begun, Failed, Found, Passed, Trusted
from soundtill.sayings import Saying


def said(text):
    return Saying.read(text)


def some_deed(source, book):
    """One more deed of a book."""
    numbers = [number for number, row in book.rows()]
    kind = source.random()
    if kind < 0.3 and numbers:
        book -= source.choice(numbers)
    elif kind < 0.45:
        book[f"r{source.randrange(3)}"] = (source.choice("abc"), source.randint(0, 6))
    elif kind < 0.55 and book.records:
        book.drop(source.choice(list(book.records)))
    else:
        book.put(some_row(source, "abc", 5))


def some_story(source, deeds):
    """A book behind some deeds, with todays between them."""
    book = Book()
    while book.deeds < deeds:
        book.today = source.choice((None, 10 ** 30))
        some_deed(source, book)
    return book


def word_by_histories(book, saying):
    """The word of a saying by all plain histories of a book and, if it lacks the tool, of this tool."""
    kept = plain_histories(book, [saying.point])
    if not kept:
        return "contradicted"
    truths = {history(saying) for history in kept}
    return "open" if len(truths) == 2 else "sure" if truths == {True} else "never"


class Words(Case):
    def test_against_all_plain_histories(self):
        source, seen = random.Random(401), []
        for _ in range(70):
            book = some_story(source, source.randint(0, 12))
            for _ in range(3):
                saying = Saying(source.choice("aabbccd"), source.randint(0, 6), source.random() < 0.5)
                words = list(known_words(book, saying))
                self.assertEqual(words, [word_by_histories(book.known(n), saying) for n in range(book.deeds + 1)])
                self.check_changes(book, saying, words)
                seen += words
        for word in ("sure", "never", "open", "contradicted"):
            self.assertGreater(seen.count(word), 30, word)

    def check_changes(self, book, saying, words):
        pairs = [(n, word) for n, word in enumerate(words) if n == 0 or words[n - 1] != word]
        self.assertEqual(changes(book, saying), pairs)
        self.assertEqual(changes(book=book, saying=saying), pairs)
        least = min(n for n in range(len(words)) if set(words[n:]) == {words[-1]})
        self.assertEqual((since(book, saying), since(book=book, saying=saying)), (least, least))
        self.assertEqual(list(known_words(book=book, saying=saying)), words)

    def test_the_present_word_is_the_judges(self):
        source, count = random.Random(402), 0
        for _ in range(80):
            book = some_story(source, 6)
            saying = Saying(source.choice("abc"), source.randint(0, 6), True)
            *_, word = known_words(book, saying)
            if word != "contradicted" and saying.tool in book.tools:
                self.assertEqual(Judge(book)(saying), word)
                count += 1
        self.assertGreater(count, 20)

    def test_without_deeds(self):
        for book in (Book(), Book().known(0), Book(Trusted("a")).known(0)):
            saying = said("a 3 sound")
            self.assertEqual((list(known_words(book, saying)), changes(book, saying), since(book, saying)), (["open"], [(0, "open")], 0))
            self.assertIs(type(changes(book, saying)), list)

    def test_contradicted_between(self):
        book = Book(Found("a", 5, True))
        number = book.put(Failed("a", 4, "a"))
        book -= number
        self.assertEqual(list(known_words(book, said("a 3 sound"))), ["open", "sure", "contradicted", "sure"])
        self.assertEqual((changes(book, said("a 9 sound")), since(book, said("a 9 sound"))), ([(0, "open"), (2, "contradicted"), (3, "open")], 3))
        # Also of a tool that the book does not have.
        self.assertEqual(list(known_words(book, said("x 3 sound"))), ["open", "open", "contradicted", "open"])
        book += Found("a", 5, False)
        self.assertEqual((changes(book, said("x 3 sound"))[-1], since(book, said("a 3 sound"))), ((4, "contradicted"), 4))

    def test_tools_that_come_later_and_go(self):
        book = Book(Found("b", 3, True), r=("a", 5))
        book += Found("a", 5, False)
        book.drop("r")
        book -= 1
        book["r"] = ("a", 7)
        self.assertEqual(list(known_words(book, said("a 6 sound"))), ["open", "open", "open", "never", "never", "open", "open"])
        self.assertEqual((changes(book, said("a 6 unsound")), since(book, said("a 6 unsound"))), ([(0, "open"), (3, "sure"), (5, "open")], 5))
        self.assertEqual((changes(book, said("x 6 unsound")), since(book, said("x 6 unsound"))), ([(0, "open")], 0))

    def test_a_row_put_again_and_a_split_life(self):
        book = Book(Found("a", 10, True))
        book += Begun("a", 7)
        book -= 0
        book += Found("a", 10, True)
        book -= 1
        words = {"a 5 sound": ["open", "sure", "open", "open", "open", "sure"], "a 8 sound": ["open", "sure", "sure", "open", "sure", "sure"],
                 "a 5 unsound": ["open", "never", "open", "open", "open", "never"]}
        for text, told in words.items():
            self.assertEqual(list(known_words(book, said(text))), told)
        self.assertEqual(since(book, said("a 8 sound")), 4)

    def test_todays_play_no_part(self):
        book = Book(Found("a", 5, True))
        book.today = 5
        book.set_today(None)
        self.assertEqual((book.deeds, changes(book, said("a 4 sound"))), (1, [(0, "open"), (1, "sure")]))

    def test_a_book_joined_or_read(self):
        book = Book.read(str(Book(Found("a", 5, True), r=("b", 4))))
        self.assertEqual(list(known_words(book, said("a 3 sound"))), ["open", "sure", "sure"])
        self.assertEqual(list(known_words(book.twin(), said("a 3 sound"))), ["open", "sure", "sure"])
        self.assertEqual(since(book.known(1), said("a 3 sound")), 1)


class Lazily(Case):
    def test_no_word_is_sought_ahead(self):
        asked = []

        class Watched(Book):
            def twin(self):
                return self

            def known(self, n):
                asked.append(n)
                return Book.known(self, n)

        book = Watched(Found("a", 5, True), Passed("b", 3, "a"))
        for n, word in enumerate(known_words(book, said("b 2 sound"))):
            self.assertEqual((asked, word), (list(range(n + 1)), ["open", "open", "sure"][n]))

    def test_one_after_another(self):
        book = some_story(random.Random(403), 200)
        for n, word in enumerate(itertools.islice(known_words(book, said("a 3 sound")), 5)):
            self.assertEqual(word, word_by_histories(book.known(n), said("a 3 sound")))

    def test_what_is_done_to_the_book_between(self):
        book = Book(Found("a", 5, True), Passed("b", 3, "a"))
        words = known_words(book, said("b 2 sound"))
        self.assertEqual(next(words), "open")
        book -= 1
        book += Trusted("b")
        self.assertEqual(list(words), ["open", "sure"])

    def test_new_lists_each_time(self):
        book = Book(Found("a", 5, True))
        first = changes(book, said("a 5 sound"))
        first.append(1)
        self.assertEqual(changes(book, said("a 5 sound")), [(0, "open"), (1, "sure")])


class TooManyDeeds(Case):
    def test_200_and_201(self):
        book = Book(*[Found("a", 5, True)] * 2)
        for _ in range(99):
            number = book.put(Found("a", 5, False))
            book -= number
        saying = said("a 3 sound")
        self.assertEqual((book.deeds, since(book, saying), changes(book, saying)[:3]), (200, 200, [(0, "open"), (1, "sure"), (3, "contradicted")]))
        self.assertEqual(len(list(known_words(book, saying))), 201)
        text = str(book)
        book["r"] = ("b", 3)
        for asked in (saying, said("x 3 sound")):
            self.refused(lambda: changes(book, asked), TooMany, "deeds", 200)
            self.refused(lambda: since(book, asked), TooMany, "deeds", 200)
            self.refused(lambda: next(known_words(book, asked)), TooMany, "deeds", 200)
            self.refused(lambda: list(known_words(book, asked)), TooMany, "deeds", 200)
        self.assertEqual((book.deeds, str(book)), (201, text + "\nrecord r b 3"))
        self.assertEqual(since(book.known(200), saying), 200)
        # Few rows do not help, deeds count.
        for number in (0, 1):
            book -= number
        self.refused(lambda: since(book, saying), TooMany, "deeds", 200)
        self.assertEqual(since(Book() + book, saying), 0)
