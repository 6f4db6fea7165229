"""Stops, states, moves and plays of programs."""

from nearanswer.checks import check_program
from nearanswer.lifeforms import check_move, check_play, check_state, fits_move, fits_play, fits_state, fits_stop
from nearanswer.moving import holding_in, many_answerers, place_in, state_behind, states_behind, word_of


def is_stop(value):
    """Whether any value is a stop."""
    return fits_stop(value)


def is_state(value):
    """Whether any value is a state."""
    return fits_state(value)


def is_move(value):
    """Whether any value is a move."""
    return fits_move(value)


def is_play(value):
    """Whether any value is a play."""
    return fits_play(value)


def next_word(program):
    """The word of the next step of a program, None at an end."""
    check_program(program)
    return word_of(program)


def answerers_around(program):
    """How many answerers lie around the next place of a program."""
    check_program(program)
    trail, _ = place_in(program)
    return many_answerers(trail)


def stops_holding(state):
    """The ascending tuple of the stops of a state that hold."""
    check_state(state)
    return holding_in(state)


def moved(state, move):
    """The state behind a move."""
    check_state(state)
    check_move(move)
    return state_behind(state, move)


def all_moved(state, play):
    """The list of the state, and of those behind each move of a play."""
    check_state(state)
    check_play(play)
    return states_behind(state, play)
