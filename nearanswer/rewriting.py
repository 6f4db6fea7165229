"""Values, next places, and single steps of slow rewriting."""

from nearanswer.checks import check_program, check_value, is_value_program
from nearanswer.work import end_of, holds_value, nearest_answerer, next_spot, shown, stepped


def is_value(value):
    """Whether any value is a program that is a value."""
    return is_value_program(value)


def shown_value(value):
    """The shown form of a value."""
    check_value(value)
    return shown(value)


def path_of(trail):
    return tuple([index for _, index in trail])


def next_place(program):
    """The path of the next place of a program, None for a value."""
    check_program(program)
    if holds_value(program):
        return None
    trail, _ = next_spot(program)
    return path_of(trail)


def step_of(program):
    """The triple of "step", the word of the next step and the program behind it, or the end of a program."""
    check_program(program)
    end = end_of(program)
    if end is not None:
        return end
    word, behind = stepped(program)
    return ("step", word, behind)


def answerer_for(program):
    """The path of the answerer by which the next deed is answered, None if there is none."""
    check_program(program)
    if holds_value(program):
        return None
    trail, spot = next_spot(program)
    if spot[0] != "do":
        return None
    at = nearest_answerer(trail, spot[1])
    if at is None:
        return None
    return path_of(trail[:at])
