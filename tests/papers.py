"""What makes a paper right, by the words of the document alone, and papers with one part otherwise."""

from made import true_in
from search import is_chain_of
from soundtill.chains import Chain
from soundtill.follows import Broken, Follows
from soundtill.histories import History
from soundtill.judge import Never, Open, Sure
from soundtill.lists import Apart, Together
from soundtill.sayings import Saying


def is_told(book, saying):
    return isinstance(saying, Saying) and saying.tool in book.tools


def goes(book, chain, one, other, most=2000):
    """Whether any value is a chain of the book, not too long, from one saying to another one."""
    if not isinstance(chain, Chain) or len(chain) > most:
        return False
    if not all(is_told(book, saying) for step in chain.steps for saying in (step.one, step.other)):
        return False
    return is_chain_of(book, chain, one, other)


def keeps(book, history):
    """Whether any value is a history of just the lives of the book that makes no pair of a row true."""
    if not isinstance(history, History) or history.lives != book.lives:
        return False
    pairs = [pair for number, row in book.rows() for pair in row.pairs(book.lives)]
    return not any(true_in(history, one) and true_in(history, other) for one, other in pairs)


def fits(book, history, sayings):
    return all(is_told(book, saying) for saying in sayings) and keeps(book, history) and all(true_in(history, saying) for saying in sayings)


def speaks(book, row):
    return not row.begins and set(row.tools) <= set(book.tools)


def right(book, paper, most=2000):
    """Whether a paper is right for a book."""
    if isinstance(paper, Sure):
        return goes(book, paper.chain, ~paper.saying, paper.saying, most)
    if isinstance(paper, Never):
        return goes(book, paper.chain, paper.saying, ~paper.saying, most)
    if isinstance(paper, Open):
        return fits(book, paper.yes, [paper.saying]) and fits(book, paper.no, [~paper.saying])
    if isinstance(paper, Together):
        return fits(book, paper.history, paper.sayings)
    if isinstance(paper, Apart):
        places = range(len(paper.sayings))
        if paper.one not in places or paper.other not in places or not all(is_told(book, saying) for saying in paper.sayings):
            return False
        one, other = paper.sayings[paper.one], paper.sayings[paper.other]
        return one == ~other if paper.chain is None else goes(book, paper.chain, one, ~other, most)
    if not speaks(book, paper.evidence):
        return False
    pairs = paper.evidence.pairs(book.lives)
    if isinstance(paper, Follows):
        return len(pairs) == len(paper.chains) and all(excludes(book, chain, *pair, most) for chain, pair in zip(paper.chains, pairs))
    return keeps(book, paper.history) and any(true_in(paper.history, u) and true_in(paper.history, v) for u, v in pairs)


def excludes(book, chain, u, v, most):
    if chain is None:
        return v == ~u
    return any(goes(book, chain, one, other, most) for one, other in ((u, ~v), (u, ~u), (v, ~v)))


def other_chains(chain, more):
    """Other values in the place of a chain."""
    found = [None, *more]
    if chain is not None:
        found.append(~chain)
        if len(chain) > 1:
            found += [Chain(*chain.steps[1:]), Chain(*chain.steps[:-1])]
        if chain.goal == chain.source:
            found.append(chain + chain)
        found += [chain + other for other in more if other is not None and other.source == chain.goal]
    return found


def other_histories(history, more):
    """Other values in the place of a history."""
    found = [None, *more]
    if isinstance(history, History):
        for tool, beginning in history.lives.listed:
            last = history.lives.last_of((tool, beginning))
            found += [history.with_turn(tool, beginning, turn) for turn in (None, beginning, last, beginning + 1) if turn is None or turn <= last]
    return found


def variants(paper, sayings, chains, histories, rows):
    """Yields papers with one part otherwise; the others are values to take instead."""
    if isinstance(paper, (Sure, Never)):
        yield Sure(paper.saying, paper.chain)
        yield Never(paper.saying, paper.chain)
        yield ~paper
        for saying in [~paper.saying, *sayings]:
            yield type(paper)(saying, paper.chain)
        for chain in other_chains(paper.chain, chains):
            yield type(paper)(paper.saying, chain)
    elif isinstance(paper, Open):
        yield ~paper
        yield Open(paper.saying, paper.no, paper.yes)
        for saying in [~paper.saying, *sayings]:
            yield Open(saying, paper.yes, paper.no)
        for history in other_histories(paper.yes, histories):
            yield Open(paper.saying, history, paper.no)
        for history in other_histories(paper.no, histories):
            yield Open(paper.saying, paper.yes, history)
    elif isinstance(paper, (Together, Apart)):
        yield from variants_of_lists(paper, sayings, chains, histories)
    else:
        yield from variants_of_rows(paper, chains, histories, rows)


def variants_of_lists(paper, sayings, chains, histories):
    lists = [paper.sayings[1:], paper.sayings[:-1], paper.sayings[::-1], (*paper.sayings, *sayings[:1]), (*sayings[:1], *paper.sayings), ()]
    lists += [(*paper.sayings[:at], ~saying, *paper.sayings[at + 1:]) for at, saying in enumerate(paper.sayings)]
    if isinstance(paper, Together):
        for told in lists:
            yield Together(told, paper.history)
        for history in other_histories(paper.history, histories):
            yield Together(paper.sayings, history)
        return
    for told in lists:
        yield Apart(told, paper.one, paper.other, paper.chain)
    count = len(paper.sayings)
    for one, other in ((paper.other, paper.one), (paper.one, paper.one), (paper.other, paper.other), (count, paper.other),
                       (paper.one, count), (-1, paper.other), (paper.one, -1), (paper.one - count, paper.other), (0, 0)):
        yield Apart(paper.sayings, one, other, paper.chain)
    for chain in other_chains(paper.chain, chains):
        yield Apart(paper.sayings, paper.one, paper.other, chain)


def variants_of_rows(paper, chains, histories, rows):
    for row in rows:
        yield Follows(row, paper.chains) if isinstance(paper, Follows) else Broken(row, paper.history)
    if isinstance(paper, Broken):
        for history in other_histories(paper.history, histories):
            yield Broken(paper.evidence, history)
        return
    yield Follows(paper.evidence, (*paper.chains, None))
    yield Follows(paper.evidence, (*paper.chains, *paper.chains))
    yield Follows(paper.evidence, paper.chains[1:])
    yield Follows(paper.evidence, paper.chains[::-1])
    for at, chain in enumerate(paper.chains):
        for other in other_chains(chain, chains):
            yield Follows(paper.evidence, (*paper.chains[:at], other, *paper.chains[at + 1:]))
