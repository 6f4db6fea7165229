"""Runs of codes on the machine."""

from nearanswer.checks import check_number
from nearanswer.errors import InvalidWay
from nearanswer.looking import check_sound
from nearanswer.machining import Machine

WAYS = ("copied", "moved", "needed")


def check_code_run(code, most):
    check_sound(code)
    check_number(most, 0, 2000)


def led(machine, most):
    """Does orders on a machine up to its end, so many at most, and returns how many were done, and its pieces."""
    many = 0
    pieces = [machine.frames_in_pieces()]
    while many < most and machine.stopped is None:
        if machine.advance():
            many = many + 1
            pieces.append(machine.frames_in_pieces())
    return (many, pieces)


def run_code(code, most, way):
    """The end, or ("more",), how many orders were done, and how many frames were copied."""
    check_code_run(code, most)
    if type(way) is not str or way not in WAYS:
        raise InvalidWay("this is no way of going")
    machine = Machine(code, way == "moved")
    many, _ = led(machine, most)
    end = machine.stopped
    if end is None:
        end = ("more",)
    copied = machine.goings
    if way == "moved":
        copied = []
    elif way == "needed":
        copied = [machine.goings[at] for at in gone_on_again(machine.goings)]
    return (end, many, sum([frames for _, frames in copied]))


def gone_on_again(goings):
    """The ascending list of the indices of the goings whose rest is gone on with again later."""
    numbers = [number for number, _ in goings]
    return [at for at, number in enumerate(numbers) if number in numbers[at + 1:]]


def goings_of(code, most):
    """The list of the numbers of the rests of all goings."""
    check_code_run(code, most)
    machine = Machine(code, False)
    led(machine, most)
    return [number for number, _ in machine.goings]


def copies_needed(code, most):
    """The ascending list of the indices of the goings that are copied as needed."""
    check_code_run(code, most)
    machine = Machine(code, False)
    led(machine, most)
    return gone_on_again(machine.goings)


def pieces_of(code, most):
    """The list of how many frames each piece has, at the beginning and behind each order done."""
    check_code_run(code, most)
    _, pieces = led(Machine(code, False), most)
    return pieces
