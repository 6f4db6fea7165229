"""Row values, and the arguments of the library that are rows."""

from nearanswer.bindings import fits_program
from nearanswer.checks import is_value_program
from nearanswer.errors import InvalidProgram, InvalidValue
from nearanswer.treeforms import is_tuple_of

END = ("shape", "End", ())
MOST_ITEMS = 40
MOST_PROGRAMS = 4


def row_of(values):
    """The row value of some values."""
    row = END
    for value in values[::-1]:
        row = ("shape", "Row", (value, row))
    return row


def is_row_shape(tree):
    """Whether a tree is a Row with two parts."""
    return tree[0] == "shape" and tree[1] == "Row" and len(tree[2]) == 2


def items_of(value):
    """The tuple of the items of a row value, None for another value."""
    items = []
    rest = value
    while is_row_shape(rest):
        items.append(rest[2][0])
        rest = rest[2][1]
    if rest != END:
        return None
    return tuple(items)


def check_items(values):
    if not is_tuple_of(values, 0, MOST_ITEMS) or not all([is_value_program(value) for value in values]):
        raise InvalidValue("these are no values for a row")


def check_row(value):
    if not is_value_program(value):
        raise InvalidValue("this is no value that is a program")
    items = items_of(value)
    if items is None or len(items) > MOST_ITEMS:
        raise InvalidValue("this is no row value, or a too long one")


def check_programs(values):
    if not is_tuple_of(values, 1, MOST_PROGRAMS) or not all([fits_program(value) for value in values]):
        raise InvalidProgram("these are no programs to take turns")
