"""Carried forms of flat programs."""

from nearanswer.carrying import BROKEN, carried_from, carried_tree
from nearanswer.errors import InvalidCarried, InvalidFlat
from nearanswer.flattening import is_flat_program
from nearanswer.treeforms import fits_tree


def is_carried(value):
    """Whether any value is the carried form of a flat program with plain names."""
    return carried_tree(value) != BROKEN


def carried_of(flat):
    """The carried form of a flat program with plain names."""
    if not fits_tree(flat) or not is_flat_program(flat):
        raise InvalidFlat("this is no flat program with plain names")
    return carried_from(flat)


def carried_back(carried):
    """The program whose carried form it is."""
    tree = carried_tree(carried)
    if tree == BROKEN:
        raise InvalidCarried("this is no carried form")
    return tree
