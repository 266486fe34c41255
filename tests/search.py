"""A search of the tests' own for steps and chains, by the words of the document alone [11]."""


def key(saying):
    return saying.tool, saying.moment, saying.is_sound


def contrary(one):
    return one[0], one[1], not one[2]


def row_steps(book):
    """The ends of all steps by rows, each with the set of its numbers."""
    found = {}
    for number, row in book.rows():
        for u, v in row.pairs(book.lives):
            for start, end in ((u, v), (v, u)):
                found.setdefault((key(start), contrary(key(end))), set()).add(number)
    return found


def is_time_step(lives, one, other):
    like = lives.life_of(*one[:2]) == lives.life_of(*other[:2]) and one[2] == other[2]
    return like and (one[1] > other[1] if one[2] else one[1] < other[1])


def next_sayings(book, points):
    """For each saying about the points all to which one step leads."""
    sayings = [(tool, moment, truth) for tool, moment in points for truth in (False, True)]
    lives, by_rows = book.lives, row_steps(book)
    return {one: [other for other in sayings if (one, other) in by_rows or is_time_step(lives, one, other)] for one in sayings}


def distances(ahead, one):
    """The least number of steps to each saying to which one leads."""
    found, edge, steps = {}, [one], 0
    while edge:
        steps += 1
        edge = sorted({other for start in edge for other in ahead[start]} - set(found))
        found.update({other: steps for other in edge})
    return found


def shortest_steps(book, one, other):
    """The least number of steps from one saying to another one, None if it does not lead there."""
    ahead = next_sayings(book, sorted({*book.told, one.point, other.point}))
    return distances(ahead, key(one)).get(key(other))


def are_steps(book, chain):
    """Whether all steps of a chain are steps of the book, each from where the one before it ends."""
    lives, by_rows = book.lives, row_steps(book)
    for at, step in enumerate(chain.steps):
        ends = key(step.one), key(step.other)
        if not (is_time_step(lives, *ends) if step.reason == "time" else step.reason in by_rows.get(ends, ())):
            return False
        if at and ends[0] != key(chain.steps[at - 1].other):
            return False
    return True


def is_chain_of(book, chain, one, other):
    """Whether a chain of the book leads from one saying to another one."""
    return key(chain.source) == key(one) and key(chain.goal) == key(other) and are_steps(book, chain)
