"""Runs with deeds done in place."""

from nearanswer.checks import check_number, check_program
from nearanswer.handing import led_in_place


def check_handed_run(program, most):
    check_program(program)
    check_number(most, 0, 400)


def handed_run(program, most):
    """The shown form of the end, or ("more",), how many steps were done, and how many deeds were answered how."""
    check_handed_run(program, most)
    end, many, answered = led_in_place(program, most)
    words = [word for _, word in answered]
    last = words.count("last")
    never = words.count("never")
    return (end, many, (last, never, len(words) - last - never))


def answer_words(program, most):
    """The list of the pairs (deed, word of the row that answers it) of all deeds answered."""
    check_handed_run(program, most)
    _, _, answered = led_in_place(program, most)
    return answered
