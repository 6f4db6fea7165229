"""Talks: programs that are answered from outside, deed by deed."""

from nearanswer.checks import check_number, check_program, check_value
from nearanswer.errors import InvalidValue
from nearanswer.running import Course
from nearanswer.treeforms import is_tuple_of
from nearanswer.work import shown


def check_values(values, low, high):
    if not is_tuple_of(values, low, high):
        raise InvalidValue("this is no tuple of as many values")
    for value in values:
        check_value(value)


def check_talk(program, answers, most):
    check_program(program)
    check_values(answers, 0, 12)
    check_number(most, 0, 3000)


def talked(program, answers, most):
    """The course of a program at the end of a talk, or behind so many steps, and the list of the deeds answered."""
    course = Course(program)
    left = most - course.lead(most)
    deeds = []
    for answer in answers:
        end = course.ending()
        if end is None or end[0] != "unanswered":
            return (course, deeds)
        deeds.append((end[1], shown(end[2])))
        course.give(answer)
        left = left - course.lead(left)
    return (course, deeds)


def talk_of(program, answers, most):
    """The pair of the list of the deeds that were answered from outside, and of the shown form of the end."""
    check_talk(program, answers, most)
    course, deeds = talked(program, answers, most)
    return (deeds, course.shown_ending())


def program_behind(program, answers, most):
    """The program at the end of the talk, or the one behind so many steps."""
    check_talk(program, answers, most)
    course, _ = talked(program, answers, most)
    return course.whole()


def deed_tree(program, menu, deep, most):
    """The deed tree of a program, with the values of a menu as answers."""
    check_program(program)
    check_values(menu, 1, 3)
    check_number(deep, 0, 4)
    check_number(most, 0, 3000)
    return deed_tree_of(Course(program), menu, deep, most)


def deed_tree_of(course, menu, deep, most):
    course.lead(most)
    end = course.ending()
    if end is None or end[0] != "unanswered":
        return course.shown_ending()
    parts = []
    if deep > 0:
        for value in menu:
            # Each answer goes on from the same program.
            behind = Course(course.whole())
            behind.give(value)
            parts.append(deed_tree_of(behind, menu, deep - 1, most))
    return ("did", end[1], shown(end[2]), tuple(parts))
