"""Names that are free and bound in trees, and plain names."""

from nearanswer.bindings import bound_in, fits_program, free_in, plain, put_in
from nearanswer.checks import check_bounds, check_name, check_tree, check_value


def free_names(tree):
    """The ascending list of the names that are free in a tree."""
    check_tree(tree)
    return free_in(tree)


def bound_names(tree):
    """The list of the names that a tree binds, in the order of its text."""
    check_tree(tree)
    return bound_in(tree)


def is_program(value):
    """Whether any value is a program."""
    return fits_program(value)


def put_for(tree, name, value):
    """The tree with a value put for a name."""
    check_tree(tree)
    check_name(name)
    check_value(value)
    whole = put_in(tree, {name: value})
    check_bounds(whole)
    return whole


def with_plain_names(tree):
    """The alike tree with plain names."""
    check_tree(tree)
    return plain(tree)


def are_alike(one, other):
    """Whether two trees differ in bound names at most."""
    check_tree(one)
    check_tree(other)
    return plain(one) == plain(other)
