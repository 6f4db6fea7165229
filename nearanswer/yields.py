"""The rests of deeds that nobody answers, and answers from outside."""

from nearanswer.checks import check_number, check_program, is_value_program
from nearanswer.errors import InvalidAnswers
from nearanswer.running import Course
from nearanswer.treeforms import is_name, is_tuple_of
from nearanswer.work import rest_of, shown

MOST_ANSWERS = 40


def are_answers(value):
    """Whether a value is answers from outside."""
    if not is_tuple_of(value, 0, MOST_ANSWERS):
        return False
    return all([is_tuple_of(pair, 2, 2) and is_name(pair[0]) and is_value_program(pair[1]) for pair in value])


def yield_of(program, most):
    """The deed that nobody answers, with its value and its rest; or the shown form of the end, or ("more",)."""
    check_program(program)
    check_number(most, 0, 400)
    course = Course(program)
    course.lead(most)
    end = course.ending()
    if end is None or end[0] != "unanswered":
        return course.shown_ending()
    return ("yield", end[1], end[2], rest_of(course.trail))


def asked(program, answers, most):
    """The shown form of the end, or ("more",), the list of the deeds to which answers were given, and the steps."""
    check_program(program)
    if not are_answers(answers):
        raise InvalidAnswers("these are no answers from outside")
    check_number(most, 0, 400)
    course = Course(program)
    many = course.lead(most)
    told = []
    for deed, value in answers:
        end = course.ending()
        if end is None or end[:2] != ("unanswered", deed):
            return (course.shown_ending(), told, many)
        told.append((deed, shown(end[2])))
        course.give(value)
        many = many + course.lead(most - many)
    return (course.shown_ending(), told, many)
