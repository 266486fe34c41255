"""The texts of books and plans, and what their lines tell."""

from soundtill.errors import BadText
from soundtill.rows import Row, read_row
from soundtill.words import first_wrong, told_by

# A book's text has three parts: its rows, its records, and at most one line behind them.
PARTS = {"record": 1, "today": 2, "empty": 2}

RECORD = ("record", "name", "name", "moment")


def book_text(book):
    """The text of a book."""
    return str(book)


def plan_text(plan):
    """The text of a plan."""
    return str(plan)


def lines_of(text):
    """The lines of any value that is a text, each as the list of its words."""
    if not isinstance(text, str):
        raise BadText(0, 0)
    return [line.split(" ") for line in text.split("\n")]


def check_alone(lines):
    """Raises BadText if there is a second line."""
    if len(lines) > 1:
        raise BadText(1, 0)


def told_book(text):
    """The rows, the points by names of records, and today, which a book's text, any value, tells."""
    rows, records, today = [], {}, None
    part, last = 0, ""
    for at, words in enumerate(lines_of(text)):
        part = part_behind(part, at, words[0])
        if words[0] in Row.KINDS:
            rows.append(read_row(at, words))
        if words[0] == "record":
            last, point = told_record(at, words, last)
            records[last] = point
        if words[0] == "today":
            _, today = told_by(at, words, ("today", "moment"))
        if words[0] == "empty":
            told_by(at, words, ("empty",))
    return rows, records, today


def part_behind(part, at, word):
    """The part of the text in which a line with this first word stands, behind a line of the other part."""
    new = 0 if word in Row.KINDS else PARTS.get(word, -1)
    if new < part or part == 2 or (word == "empty" and at > 0):
        raise BadText(at, 0)
    return new


def told_record(at, words, last):
    """The name and the point of a record's line; the name must be greater than the last one."""
    wrong = first_wrong(words, RECORD)
    if (wrong is None or wrong > 1) and words[1] <= last:
        raise BadText(at, 1)
    _, name, tool, moment = told_by(at, words, RECORD)
    return name, (tool, moment)
