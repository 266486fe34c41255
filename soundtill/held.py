"""Books held against one another: whether what keeps the one keeps the other."""

from soundtill.follows import kept_lives, pair_follows
from soundtill.histories import check_like
from soundtill.judge import history_in
from soundtill.lives import with_tools
from soundtill.nets import Net


def joint_lives(lives, others):
    """The lives of all tools of both; raises Unlike with the least tool that has not the same ones."""
    joint = with_tools(lives, others.tools)
    check_like(joint, with_tools(others, lives.tools))
    return joint


def parting(one, other):
    """The least number of a row of the other book that does not follow from the one, and a history; None if all do."""
    lives = joint_lives(one.lives, other.lives)
    kept_lives(one)
    kept_lives(other)
    net = Net(lives, list(one.rows()), ())
    for number, row in other.rows():
        for saying, denied in row.pairs(lives):
            if not pair_follows(net, saying, denied):
                told = net.with_points([saying.point, denied.point])
                return number, history_in(told, [saying, denied])
    return None


def at_most(one, other):
    """Whether each history of all tools of both books that keeps the one keeps the other."""
    return parting(one, other) is None


def alike(one, other):
    """Whether each of two books is at most the other."""
    return at_most(one, other) and at_most(other, one)
