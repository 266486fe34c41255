"""What follows from a book, and which of its rows it does not need."""

from soundtill.errors import NoEvidence
from soundtill.judge import Judge
from soundtill.nets import Net


class RowPaper:
    """The base class of what is told of rows, of what each of them does. It never changes."""

    def __bool__(self):
        return bool(isinstance(self, Follows))

    def __eq__(self, other):
        return False


class Follows(RowPaper):
    """The row follows: a chain for each of its pairs, or None for contraries."""

    def __init__(self, evidence, chains):
        self.word = "follows"
        self.evidence = evidence
        self.chains = tuple(chains)

    def __bool__(self):
        return True

    def __eq__(self, other):
        return isinstance(other, Follows) and self.evidence == other.evidence and self.chains == other.chains


class Broken(RowPaper):
    """The row does not follow: a history keeps the book, and does not keep the row."""

    def __init__(self, evidence, history):
        self.word = "broken"
        self.evidence = evidence
        self.history = history

    def __bool__(self):
        return False

    def __eq__(self, other):
        return isinstance(other, Broken) and self.evidence == other.evidence and self.history == other.history


def pair_follows(net, one, other):
    """Whether no history of a net makes both sayings of a pair true."""
    return other == ~one or net.leads(one, ~other) or net.leads(one, ~one) or net.leads(other, ~other)


def pair_chain(reach, one, other):
    """A shortest chain that shows that a pair follows; None if its sayings are contraries."""
    if other == ~one:
        return None
    chains = [reach.shortest(one, ~other), reach.shortest(one, ~one), reach.shortest(other, ~other)]
    return min([chain for chain in chains if chain is not None], key=len)


def pairs_of(judge, row):
    """The pairs of a row that begins no life, by the lives of the judge's book."""
    if row.begins:
        raise NoEvidence(row.kind)
    return row.pairs(judge.reach.lives)


def follows(judge, row):
    """Whether a row follows from the judge's book."""
    return all([pair_follows(judge.reach, one, other) for one, other in pairs_of(judge, row)])


def shown_row(judge, row):
    """A Follows if a row follows from the judge's book, otherwise a Broken."""
    pairs = pairs_of(judge, row)
    for one, other in pairs:
        if not pair_follows(judge.reach, one, other):
            return Broken(row, judge.history_with(one, other))
    return Follows(row, [pair_chain(judge.reach, one, other) for one, other in pairs])


def is_needless(lives, numbered, at):
    """Whether the row with the index at begins no life and follows from the others of the numbered rows."""
    _, row = numbered[at]
    if row.begins:
        return False
    # The lives are those of all rows, so no tool is lost with the row that names it.
    net = Net(lives, numbered[:at] + numbered[at + 1:], ())
    return all([pair_follows(net, one, other) for one, other in row.pairs(lives)])


def kept_lives(book):
    """The lives of a book; raises Contradicted as a judge does."""
    return Judge(book).reach.lives


def needless(book):
    """The numbers of the rows of a book that follow from all its other rows, ascending."""
    lives = kept_lives(book)
    numbered = list(book.rows())
    return tuple([number for at, (number, row) in enumerate(numbered) if is_needless(lives, numbered, at)])


def thinned(book):
    """A twin of the book without rows that the others make needless, from the greatest number down."""
    lives = kept_lives(book)
    thin, numbered = book.twin(), list(book.rows())
    for at in reversed(range(len(numbered))):
        if is_needless(lives, numbered, at):
            number, _ = numbered[at]
            thin -= number
            numbered = numbered[:at] + numbered[at + 1:]
    return thin
