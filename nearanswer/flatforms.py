"""Flat trees and flat forms."""

from nearanswer.checks import check_size, check_tree
from nearanswer.flattening import flattened, holds_flat


def is_flat(tree):
    """Whether a tree is flat."""
    check_tree(tree)
    return holds_flat(tree)


def flat_form(tree):
    """The flat form of a tree."""
    check_tree(tree)
    check_size(tree, 100)
    return flattened(tree)
