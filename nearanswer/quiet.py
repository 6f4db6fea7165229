"""Trees that are sure, quiet, or silent for a deed."""

from nearanswer.checks import check_name, check_tree
from nearanswer.errors import InvalidPattern, InvalidTree
from nearanswer.rewriting import path_of
from nearanswer.sureness import holds_quiet, holds_silent, holds_sure, open_trail, seen_fit
from nearanswer.treeforms import fits_pattern


def is_sure(tree):
    """Whether a tree is sure."""
    check_tree(tree)
    return holds_sure(tree)


def is_quiet(tree):
    """Whether a tree is quiet."""
    check_tree(tree)
    return holds_quiet(tree)


def is_silent(tree, deed):
    """Whether a tree is silent for a deed."""
    check_tree(tree)
    check_name(deed)
    return holds_silent(tree, deed)


def open_place(tree):
    """The path of the open place of a tree, None for a sure one."""
    check_tree(tree)
    if holds_sure(tree):
        return None
    trail, _ = open_trail(tree)
    return path_of(trail)


def fit_seen(pattern, tree):
    """Whether a pattern fits a sure tree surely (True), not at all (False), or maybe (None)."""
    if not fits_pattern(pattern):
        raise InvalidPattern("this is no pattern")
    check_tree(tree)
    if not holds_sure(tree):
        raise InvalidTree("this tree is not sure")
    return seen_fit(pattern, tree)
