"""Reports: all records of a book and whether they are sound, as a text."""

from soundtill.judge import RECORD_WORDS


def report(judge):
    """A line for each record of the judge's book, and one that counts them."""
    book, lines, words = judge.book, [], []
    for name, word in judge.each_record():
        tool, moment = book[name]
        lines.append(f"{name:<8} {tool:<8} {moment:>31} {word}")
        words.append(word)
    counts = ", ".join([f"{word} {words.count(word)}" for word in RECORD_WORDS.values()])
    return "\n".join([*lines, counts])
