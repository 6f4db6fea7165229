"""Programs all of whose answers go on last, led to ones without answerers."""

from nearanswer.checks import check_program, check_tree
from nearanswer.errors import NotLast, TooMany
from nearanswer.handover import deeds_answered, handed_over
from nearanswer.uses import answerer_rows

MOST_DEEDS = 4


def answered_deeds(tree):
    """The ascending list of all deeds for which some answerer in a tree has a row."""
    check_tree(tree)
    return deeds_answered(tree)


def goes_on_last(tree):
    """Whether all rows of all answerers in a tree go on last."""
    check_tree(tree)
    return all([word == "last" for _, _, word in answerer_rows(tree)])


def handed_tree(program):
    """A program without answerers that shows the same."""
    check_program(program)
    for _, deed, word in answerer_rows(program):
        if word != "last":
            raise NotLast(deed)
    if len(deeds_answered(program)) > MOST_DEEDS:
        raise TooMany(MOST_DEEDS)
    return handed_over(program)
