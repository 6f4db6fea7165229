"""Ends shown by programs themselves, and by those to which they are led."""

from nearanswer.bynext import by_next
from nearanswer.bytrees import by_trees, end_told
from nearanswer.checks import check_number, check_program
from nearanswer.errors import InvalidEngine
from nearanswer.running import MORE, Course

ENGINES = ("rewriting", "trees", "next")


def check_engine(value):
    if type(value) is not str or value not in ENGINES:
        raise InvalidEngine("this is no engine")


def shown_by(program, engine, most):
    """The pair of the shown form of the end of a program, or of ("more",), and of how many steps were done."""
    check_program(program)
    check_engine(engine)
    check_number(most, 0, 3000)
    return shown_and_steps(program, engine, most)


def shown_and_steps(program, engine, most):
    if engine == "rewriting":
        return run_by_rewriting(program, most)
    if engine == "trees":
        led = by_trees(program)
    else:
        led = by_next(program)
    end, many = run_by_rewriting(led, most)
    return (end_told(end), many)


def run_by_rewriting(program, most):
    course = Course(program)
    many = course.lead(most)
    return (course.shown_ending(), many)


def are_shown_alike(program, engine, other, most):
    """Whether two engines show the same end of a program, None if one of them does not come to one."""
    check_program(program)
    check_engine(engine)
    check_engine(other)
    check_number(most, 0, 3000)
    one, _ = shown_and_steps(program, engine, most)
    two, _ = shown_and_steps(program, other, most)
    if one == MORE or two == MORE:
        return None
    return one == two
