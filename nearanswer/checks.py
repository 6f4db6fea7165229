"""The checks of arguments that many modules share; each raises the error of what is wrong."""

from nearanswer.bindings import fits_program, free_in
from nearanswer.errors import (InvalidName, InvalidNumber, InvalidPath, InvalidProgram, InvalidTree, InvalidValue,
                               TooMany)
from nearanswer.treeforms import fits_path, fits_tree, is_integer, is_name, is_within_bounds, measure, trees_in
from nearanswer.work import holds_value


def check_tree(value):
    if not fits_tree(value):
        raise InvalidTree("this is no tree")


def check_bounds(tree):
    """What is built of trees may be too great or too deep for a tree."""
    if not is_within_bounds(tree):
        raise InvalidTree("what comes is too great or too deep")


def check_program(value):
    check_tree(value)
    if len(free_in(value)) > 0:
        raise InvalidProgram("names are free in this tree")


def is_value_program(value):
    """Whether any value is a value that is a program."""
    return fits_program(value) and holds_value(value)


def check_value(value):
    if not is_value_program(value):
        raise InvalidValue("this is no value that is a program")


def check_path(tree, value):
    if not fits_path(tree, value):
        raise InvalidPath("this is no path of the tree")


def check_name(value):
    if not is_name(value):
        raise InvalidName("this is no name")


def check_number(value, low, high):
    if not is_integer(value, low, high):
        raise InvalidNumber(f"this is no integer from {low} to {high}")


def check_size(tree, limit):
    """TooMany for a tree of a greater size."""
    if measure(tree)[0] > limit:
        raise TooMany(limit)


def check_scopes(tree, limit):
    """TooMany for a tree with more lets and recs."""
    if len([one for one in trees_in(tree) if one[0] == "let" or one[0] == "rec"]) > limit:
        raise TooMany(limit)
