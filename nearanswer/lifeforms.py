"""Forms of stops, states, moves and plays, told without raising errors but by the checks."""

from nearanswer.bindings import fits_program
from nearanswer.checks import is_value_program
from nearanswer.errors import InvalidMove, InvalidPlay, InvalidState
from nearanswer.treeforms import begins_with_word, fits_tree, is_integer, is_name, is_tuple_of

MOST_DONE = 10 ** 6
MOST_STOPS = 12
MOST_MOVES = 30
MOST_INDICES = 120
GREATEST_INDEX = 1000
WORDS = ("call", "let", "rec", "match", "op", "plain", "deed")
# The bounds of the numbers of stops.
STOP_BOUNDS = {"size": (1, 3000), "around": (1, 120), "done": (0, 10 ** 6)}


def fits_stop(value):
    """Whether any value is a stop."""
    if not begins_with_word(value):
        return False
    word = value[0]
    if word == "end":
        return len(value) == 1
    if len(value) != 2:
        return False
    if word == "word":
        return type(value[1]) is str and value[1] in WORDS
    if word == "deed":
        return is_name(value[1])
    if word not in STOP_BOUNDS:
        return False
    low, high = STOP_BOUNDS[word]
    return is_integer(value[1], low, high)


def fits_stops(value):
    """Whether any value is an ascending tuple of stops."""
    if not is_tuple_of(value, 0, MOST_STOPS) or not all([fits_stop(stop) for stop in value]):
        return False
    return all([stop < other for stop, other in zip(value, value[1:])])


def fits_state(value):
    """Whether any value is a state."""
    if not is_tuple_of(value, 3, 3) or not fits_program(value[0]):
        return False
    return is_integer(value[1], 0, MOST_DONE) and fits_stops(value[2])


def fits_move(value):
    """Whether any value is a move."""
    if not begins_with_word(value):
        return False
    word = value[0]
    many = len(value)
    if word == "step" or word == "plain":
        return many == 1
    if word == "go":
        return many == 2 and is_integer(value[1], 1, 200)
    if word == "tell":
        return many == 2 and is_value_program(value[1])
    if word == "answer":
        return many == 3 and is_name(value[1]) and is_value_program(value[2])
    if word == "put":
        return many == 3 and is_index_row(value[1]) and fits_tree(value[2])
    return word == "stop" and many == 2 and fits_stop(value[1])


def is_index_row(value):
    """Whether a value is a tuple of integers as the move "put" has it, be it a path or not."""
    if not is_tuple_of(value, 0, MOST_INDICES):
        return False
    return all([is_integer(index, 0, GREATEST_INDEX) for index in value])


def fits_play(value):
    """Whether any value is a play."""
    return is_tuple_of(value, 0, MOST_MOVES) and all([fits_move(move) for move in value])


def check_state(value):
    if not fits_state(value):
        raise InvalidState("this is no state")


def check_move(value):
    if not fits_move(value):
        raise InvalidMove("this is no move")


def check_play(value):
    if not fits_play(value):
        raise InvalidPlay("this is no play")
