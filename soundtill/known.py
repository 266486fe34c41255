"""What was known of a saying behind each deed of a book."""

from soundtill.chains import Reach
from soundtill.errors import TooMany

MOST_DEEDS = 200


def word_in(book, saying):
    """The word of a saying in a book, which may be contradicted or not have its tool."""
    reach = Reach(book)
    if reach.on_rings():
        return "contradicted"
    return reach.judged(saying) if saying.tool in book.tools else "open"


def known_words(book, saying):
    """Yields the words of a saying behind no deed, behind one, and so on."""
    if book.deeds > MOST_DEEDS:
        raise TooMany("deeds", MOST_DEEDS)
    # A twin: what is done to the book between two words changes none of them.
    told = book.twin()
    for n in range(told.deeds + 1):
        yield word_in(told.known(n), saying)


def changes(book, saying):
    """The word of a saying behind no deed, and then each other one, with the number of deeds behind which it came."""
    found = []
    for n, word in enumerate(known_words(book, saying)):
        if not found or found[-1][1] != word:
            found.append((n, word))
    return found


def since(book, saying):
    """The least number of deeds from which on a saying has its present word."""
    n, _ = changes(book, saying)[-1]
    return n
