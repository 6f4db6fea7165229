"""Trees and patterns, their parts and paths."""

from nearanswer.checks import check_bounds, check_path, check_tree
from nearanswer.treeforms import fits_pattern, fits_tree, measure, part_by, parts_in, paths_in, put_by


def is_tree(value):
    """Whether any value is a tree."""
    return fits_tree(value)


def is_pattern(value):
    """Whether any value is a pattern."""
    return fits_pattern(value)


def tree_size(tree):
    """How many trees and patterns a tree consists of."""
    check_tree(tree)
    return measure(tree)[0]


def tree_depth(tree):
    """How deep trees and patterns stand in one another in a tree."""
    check_tree(tree)
    return measure(tree)[1]


def parts_of(tree):
    """The list of the parts of a tree."""
    check_tree(tree)
    return parts_in(tree)


def part_at(tree, path):
    """The part to which a path leads."""
    check_tree(tree)
    check_path(tree, path)
    return part_by(tree, path)


def put_at(tree, path, other):
    """The tree with another one in the place of the part to which a path leads."""
    check_tree(tree)
    check_path(tree, path)
    check_tree(other)
    whole = put_by(tree, path, other)
    check_bounds(whole)
    return whole


def all_paths(tree):
    """The ascending list of all paths of a tree."""
    check_tree(tree)
    return paths_in(tree)
