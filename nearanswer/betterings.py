"""Betterings of trees."""

from nearanswer.bettering import WORDS, betterings_by, tree_behind
from nearanswer.checks import check_size, check_tree
from nearanswer.errors import InvalidBettering

MOST_BETTERED = 400


def is_bettering(tree, value):
    """Whether any value is a bettering that can be done in a tree."""
    check_tree(tree)
    return tree_behind(tree, value) is not None


def bettered(tree, bettering):
    """The tree behind a bettering."""
    check_tree(tree)
    whole = tree_behind(tree, bettering)
    if whole is None:
        raise InvalidBettering("this is no bettering that can be done in the tree")
    return whole


def all_betterings(tree):
    """The ascending list of all betterings that can be done in a tree, but for those with "share"."""
    check_tree(tree)
    check_size(tree, MOST_BETTERED)
    found = []
    for word in WORDS:
        found.extend(betterings_by(tree, word))
    return found
