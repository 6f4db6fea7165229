"""Plain models told once more, by single steps: branches are calls within calls, and what ends all is an error."""

from nearanswer.rewriting import next_place, shown_value, step_of
from nearanswer.trees import put_at


class Told(Exception):
    """What is told at once."""


class Hand:

    def __init__(self, most):
        self.most = most
        self.count = 0

    def one_more(self):
        self.count += 1
        if self.count > self.most:
            raise Told(("more",))

    def run(self, program, deeds):
        """The pair of a value, or of the deed, its value and the program, at an end."""
        while True:
            if self.count == self.most and ends(program) is None:
                raise Told(("more",))
            told = step_of(program)
            if told[0] == "value":
                return ("value", told[1], None)
            if told[0] == "unanswered" and told[1] in deeds:
                return (told[1], told[2], program)
            if told[0] == "stuck":
                raise Told(told)
            if told[0] == "unanswered":
                raise Told(("unanswered", told[1], shown_value(told[2])))
            self.one_more()
            program = told[2]

    def branches(self, program, row, deeds):
        """The results of all branches, one after another."""
        deed, value, program = self.run(program, deeds)
        if deed == "value":
            yield (value, row)
        elif deed == "next":
            if row == ("shape", "End", ()):
                return
            if row[:2] != ("shape", "Row") or len(row[2]) != 2:
                raise Told(("stuck", "match"))
            yield from self.branches(given(program, row[2][0]), row[2][1], deeds)
        elif deed == "pick":
            if value[0] != "num":
                raise Told(("stuck", "number"))
            number = 0
            while number < value[1]:
                self.one_more()
                yield from self.branches(given(program, ("num", number)), row, deeds)
                number += 1


def ends(program):
    """The end of a program, None if it does a step, be what comes of it too great or not."""
    try:
        told = step_of(program)
    except Exception:
        return None
    return None if told[0] == "step" else told


def given(program, value):
    return put_at(program, next_place(program), value)


def shown_row(items, last=("End", ())):
    for item in reversed(items):
        last = ("Row", (item, last))
    return last


def told_state(hand, value, program):
    kept = value
    deed = None
    while deed != "value":
        deed, asked, behind = hand.run(program, ("get", "put"))
        if deed == "put":
            kept = asked
        if deed != "value":
            program = given(behind, kept)
    return ("Pair", (shown_value(asked), shown_value(kept)))


def told_faults(hand, program):
    deed, value, _ = hand.run(program, ("fault",))
    return ("Good" if deed == "value" else "Bad", (shown_value(value),))


def told_rows(hand, program):
    handed = []
    while True:
        deed, value, program = hand.run(program, ("hand",))
        if deed == "value":
            return shown_row(handed, ("End", (shown_value(value),)))
        handed.append(shown_value(value))
        program = given(program, value)


def told_choices(hand, program):
    return shown_row([shown_value(value) for value, _ in hand.branches(program, None, ("pick", "fail"))])


def told_first(hand, program):
    for value, _ in hand.branches(program, None, ("pick", "fail")):
        return ("Good", (shown_value(value),))
    return ("End", ())


def told_turns(hand, programs):
    line, said = list(programs), []
    while line:
        deed, value, program = hand.run(line.pop(0), ("say", "turn"))
        while deed == "say":
            said.append(shown_value(value))
            deed, value, program = hand.run(given(program, value), ("say", "turn"))
        if deed == "turn":
            line.append(given(program, value))
    return shown_row(said)


def told_reading(hand, value, program):
    return shown_row([("Pair", (shown_value(one), shown_value(row))) for one, row in hand.branches(program, value, ("pick", "fail", "next"))])


def done_anew(hand, deed, row, program):
    given_values = []
    while row[2]:
        told, value, behind = hand.run(program, (deed,))
        if told == "value":
            return shown_value(value), given_values
        given_values.append(shown_value(row[2][0]))
        program = given(behind, row[2][0])
        row = row[2][1]
    return shown_value(hand.run(program, ())[1]), given_values


def told_anew(hand, deed, row, program):
    return done_anew(hand, deed, row, program)[0]


def told_written(hand, deed, row, program):
    value, answers = done_anew(hand, deed, row, program)
    return ("Pair", (value, shown_row(answers[::-1])))


def told(model, arguments, most):
    """The pair of what a model tells, and of how many steps it counts; InvalidTree and TooMany go on."""
    hand = Hand(most)
    try:
        return ("value", model(hand, *arguments)), hand.count
    except Told as outcome:
        return outcome.args[0], hand.count
