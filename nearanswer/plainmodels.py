"""Plain models: what programs tell whose deeds are done by hand, without any answerer."""

from nearanswer.byhand import Branches, ByHand, shown_row
from nearanswer.checks import check_name, check_number, check_program, check_value
from nearanswer.rowvalues import END, check_programs, check_row, items_of
from nearanswer.running import Course
from nearanswer.work import shown

SHOWN_END = ("End", ())


def check_told(program, most):
    check_program(program)
    check_number(most, 0, 400)


def run_by_hand(program, most):
    hand = ByHand(most)
    hand.run(program)
    return hand


def told_state(value, program, most):
    """What a program with a state tells, which is the value at first."""
    check_value(value)
    check_told(program, most)
    hand = run_by_hand(program, most)
    kept = value
    while hand.asked(("get", "put")):
        if hand.halt[1] == "put":
            kept = hand.halt[2]
        hand.give(kept)
    if not hand.at_value():
        return hand.told()
    return ("value", ("Pair", (shown(hand.halt[1]), shown(kept))))


def told_faults(program, most):
    """What a program with faults tells."""
    check_told(program, most)
    hand = run_by_hand(program, most)
    if hand.asked(("fault",)):
        return ("value", ("Bad", (shown(hand.halt[2]),)))
    if not hand.at_value():
        return hand.told()
    return ("value", ("Good", (shown(hand.halt[1]),)))


def told_rows(program, most):
    """What a program tells that hands out rows."""
    check_told(program, most)
    hand = run_by_hand(program, most)
    handed = []
    while hand.asked(("hand",)):
        handed.append(shown(hand.halt[2]))
        hand.give(hand.halt[2])
    if not hand.at_value():
        return hand.told()
    return ("value", shown_row(handed, ("End", (shown(hand.halt[1]),))))


def told_choices(program, most):
    """What a program with choices tells."""
    check_told(program, most)
    branches = Branches(program, END, most, ("pick", "fail"))
    results = all_results(branches)
    if branches.outcome is not None:
        return branches.outcome
    return ("value", shown_row([shown(value) for value, _ in results], SHOWN_END))


def all_results(branches):
    results = []
    result = branches.next_result()
    while result is not None:
        results.append(result)
        result = branches.next_result()
    return results


def told_first(program, most):
    """What a program with the first choice tells."""
    check_told(program, most)
    branches = Branches(program, END, most, ("pick", "fail"))
    result = branches.next_result()
    if branches.outcome is not None:
        return branches.outcome
    if result is None:
        return ("value", SHOWN_END)
    return ("value", ("Good", (shown(result[0]),)))


def told_turns(programs, most):
    """What the programs of a tuple tell in turns."""
    check_programs(programs)
    check_number(most, 0, 400)
    hand = ByHand(most)
    line = [Course(program) for program in programs]
    said = []
    while line:
        hand.take(line.pop(0))
        while hand.asked(("say",)):
            said.append(shown(hand.halt[2]))
            hand.give(hand.halt[2])
        if hand.asked(("turn",)):
            hand.put(hand.halt[2])
            line.append(hand.course)
        elif not hand.at_value():
            return hand.told()
    return ("value", shown_row(said, SHOWN_END))


def told_reading(value, program, most):
    """What a program tells that reads a value."""
    check_value(value)
    check_told(program, most)
    branches = Branches(program, value, most, ("pick", "fail", "next"))
    results = all_results(branches)
    if branches.outcome is not None:
        return branches.outcome
    pairs = [("Pair", (shown(result), shown(left))) for result, left in results]
    return ("value", shown_row(pairs, SHOWN_END))


def done_by_row(deed, row, program, most):
    """A program run by hand with the items of a row as answers to a deed, and the shown forms of those given."""
    hand = run_by_hand(program, most)
    given = []
    for item in items_of(row):
        if not hand.asked((deed,)):
            break
        given.append(shown(item))
        hand.give(item)
    return (hand, given)


def told_anew(deed, row, program, most):
    """What a program tells that is done anew with the answers of a row to a deed."""
    check_name(deed)
    check_row(row)
    check_told(program, most)
    hand, _ = done_by_row(deed, row, program, most)
    return hand.told()


def told_written(deed, row, program, most):
    """What a program tells if the answers of a row to a deed are written down."""
    check_name(deed)
    check_row(row)
    check_told(program, most)
    hand, given = done_by_row(deed, row, program, most)
    if not hand.at_value():
        return hand.told()
    return ("value", ("Pair", (shown(hand.halt[1]), shown_row(given[::-1], SHOWN_END))))
