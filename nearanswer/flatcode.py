"""Codes of programs."""

from nearanswer.checks import check_program, check_size
from nearanswer.codeforms import check_code, fits_code
from nearanswer.coding import code_from
from nearanswer.decoding import program_from


def is_code(value):
    """Whether any value is a code."""
    return fits_code(value)


def code_of(program):
    """The code of a program."""
    check_program(program)
    check_size(program, 400)
    return code_from(program)


def program_of_code(code):
    """The program with plain names whose code it is, None if there is none."""
    check_code(code)
    return program_from(code)
