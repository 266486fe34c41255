"""Small books and histories, made by a random source with a fixed seed, and searches that look at all cases."""

import itertools
import random

from soundtill.books import Book
from soundtill.histories import History
from soundtill.lives import Lives
from soundtill.rows import Agreed, Backed, Begun, Differed, Failed, Found, Passed, Served, SetBy, Trusted

MEETINGS = (Agreed, Differed, Served, Backed)


def some_row(source, tools, top):
    """A row about some tools, with moments up to top."""
    tool, other = source.choice(tools), source.choice(tools)
    moment, later = source.randint(0, top), source.randint(0, top)
    kind = source.randrange(12)
    if kind == 0:
        return Begun(tool, moment + 1)
    if kind == 1:
        return SetBy(tool, moment + 1, other)
    if kind in (2, 3):
        return Found(tool, moment, source.choice((True, False)))
    if kind == 4:
        return Trusted(tool)
    if kind in (5, 6):
        return Passed(tool, moment, other)
    if kind == 7:
        return Failed(tool, moment, other)
    return MEETINGS[kind - 8](tool, moment, other, later)


def some_book(source, tools="abc", top=6, most=7):
    """A book with some rows, of which some were taken back, and some records."""
    book = Book()
    for _ in range(source.randint(0, most)):
        book += some_row(source, tools, top)
    for number in [number for number, row in book.rows()]:
        if source.random() < 0.15:
            book -= number
    for k in range(source.randint(0, 2)):
        book[f"r{k}"] = (source.choice(tools), source.randint(0, top))
    return book


def books(count, seed, **bounds):
    """Yields so many small books, the same ones for the same seed."""
    source = random.Random(seed)
    for _ in range(count):
        yield some_book(source, **bounds)


def all_histories(book, points=()):
    """Yields one history for each choice of what is sound at the told points and the others."""
    lives = book.lives
    told = [*book.told, *points]
    choices = []
    for tool, beginning in lives.listed:
        last = lives.last_of((tool, beginning))
        moments = sorted({moment for name, moment in told if name == tool and beginning <= moment <= last})
        behind = sorted({moment + 1 for moment in moments if moment < last})
        choices.append([None, beginning, *[moment for moment in behind if moment > beginning]])
    for turns in itertools.product(*choices):
        yield History(lives, dict(zip(lives.listed, turns)))


def keeping(book, points=()):
    """The histories that make no pair of a row of the book true, looked at pair by pair."""
    found = []
    lives = book.lives
    pairs = [pair for number, row in book.rows() for pair in row.pairs(lives)]
    for history in all_histories(book, points):
        if not any(true_in(history, one) and true_in(history, other) for one, other in pairs):
            found.append(history)
    return found


def true_in(history, saying):
    """Whether a saying is true in a history, by its turns alone."""
    lives = history.lives
    life = max(life for life in lives.listed if life[0] == saying.tool and life[1] <= saying.moment)
    turn = history.turns[life]
    return (turn is None or saying.moment < turn) == saying.is_sound


def plain_histories(book, points=()):
    """All plain histories that keep the book, by its told points and these, of its tools and those of these, in their order."""
    later = {tool: book.lives.beginnings(tool)[1:] for tool in book.tools}
    lives = Lives({**{tool: () for tool, moment in points}, **later})
    told = {*book.told, *points}
    choices = []
    for life in lives.listed:
        moments = sorted(moment for tool, moment in told if lives.life_of(tool, moment) == life)
        choices.append([*([life[1]] if moments else []), *[moment + 1 for moment in moments[:-1]], None])
    pairs = [pair for number, row in book.rows() for pair in row.pairs(lives)]
    found = []
    for turns in itertools.product(*choices):
        history = History(lives, dict(zip(lives.listed, turns)))
        if not any(true_in(history, one) and true_in(history, other) for one, other in pairs):
            found.append(history)
    return found


def kept_book(source, **bounds):
    """A small book that is not contradicted."""
    while True:
        book = some_book(source, **bounds)
        if keeping(book):
            return book
