"""Runs of carried programs."""

from nearanswer.blockruns import led_by_blocks
from nearanswer.carrying import BROKEN, carried_tree
from nearanswer.checks import check_number
from nearanswer.errors import InvalidCarried


def check_carried_run(carried, most):
    if carried_tree(carried) == BROKEN:
        raise InvalidCarried("this is no carried form")
    check_number(most, 0, 400)


def run_carried(carried, most):
    """The pair of the shown form of the end, or of ("more",), and of how many steps were done."""
    check_carried_run(carried, most)
    end, words = led_by_blocks(carried, most)
    return (end, len(words))


def words_carried(carried, most):
    """The list of the words of the steps."""
    check_carried_run(carried, most)
    _, words = led_by_blocks(carried, most)
    return words
