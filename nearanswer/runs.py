"""Runs of programs by many steps."""

from nearanswer.checks import check_number, check_program
from nearanswer.work import end_of, nearest_answerer, next_spot, shown, shown_end, stepped


def check_run(program, most):
    check_program(program)
    check_number(most, 0, 400)


def led_on(program, most):
    """The programs from this one on, up to the end or behind so many steps, and the words of the steps."""
    programs = [program]
    words = []
    while len(words) < most and end_of(programs[-1]) is None:
        word, behind = stepped(programs[-1])
        words.append(word)
        programs.append(behind)
    return (programs, words)


def run_of(program, most):
    """The shown form of the end, how many steps were done, and (), or the program behind them."""
    check_run(program, most)
    programs, words = led_on(program, most)
    end = end_of(programs[-1])
    if end is None:
        return (("more",), most, programs[-1])
    return (shown_end(end), len(words), ())


def course_of(program, most):
    """The list of the programs from this one on."""
    check_run(program, most)
    programs, _ = led_on(program, most)
    return programs


def words_of(program, most):
    """The list of the words of the steps."""
    check_run(program, most)
    _, words = led_on(program, most)
    return words


def deeds_of(program, most):
    """The list of the triples (deed, shown form of its value, how many answerers up to the one that answers)."""
    check_run(program, most)
    programs, words = led_on(program, most)
    return [answered_deed(one) for one, word in zip(programs, words) if word == "deed"]


def answered_deed(program):
    """The triple of the deed that is answered in the next step."""
    trail, spot = next_spot(program)
    around = trail[nearest_answerer(trail, spot[1]):]
    return (spot[1], shown(spot[2]), len([tree for tree, _ in around if tree[0] == "answer"]))
