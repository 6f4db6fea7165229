"""Papers of betterings, one behind another."""

from nearanswer.bettering import behind_all, first_bettering, tree_behind
from nearanswer.betterings import MOST_BETTERED
from nearanswer.checks import check_number, check_size, check_tree
from nearanswer.errors import InvalidPaper
from nearanswer.treeforms import measure


def is_better_paper(tree, value):
    """Whether any value is a paper of a tree."""
    check_tree(tree)
    return behind_all(tree, value) is not None


def better_by(tree, paper):
    """The tree behind all betterings of a paper."""
    check_tree(tree)
    whole = behind_all(tree, paper)
    if whole is None:
        raise InvalidPaper("this is no paper of the tree")
    return whole


def made_better(tree, most):
    """The pair of the tree behind one first bettering after another, so many at most, and of their paper."""
    check_tree(tree)
    check_number(most, 0, 200)
    check_size(tree, MOST_BETTERED)
    whole = tree
    paper = []
    while len(paper) < most and measure(whole)[0] <= MOST_BETTERED:
        step = first_bettering(whole)
        if step is None:
            break
        whole = tree_behind(whole, step)
        paper.append(step)
    return (whole, tuple(paper))
