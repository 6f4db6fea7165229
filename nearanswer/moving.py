"""What holds in states, and moves that are done in them, told without checks."""

from nearanswer.bindings import fits_program, plain
from nearanswer.errors import CannotMove
from nearanswer.lifeforms import MOST_DONE, MOST_STOPS
from nearanswer.running import Course
from nearanswer.treeforms import fits_path, is_within_bounds, measure, put_around, put_by
from nearanswer.work import STEP_WORDS, end_of, holds_value, next_spot, stop_at


def place_in(program):
    """The trail to the next place of a program, and the tree there; of a value, no trail, and itself."""
    if holds_value(program):
        return ([], program)
    return next_spot(program)


def is_at_end(trail, spot):
    """Whether a program is at an end, by its next place."""
    return holds_value(spot) or stop_at(trail, spot) is not None


def many_answerers(trail):
    """How many answerers lie around the next place."""
    return len([tree for tree, _ in trail if tree[0] == "answer"])


def holds_at(stop, trail, spot, size, done):
    """Whether a stop holds, by the next place of a program, its size, and how many steps have been done."""
    word = stop[0]
    if word == "word":
        return not is_at_end(trail, spot) and STEP_WORDS[spot[0]] == stop[1]
    if word == "deed":
        return spot[0] == "do" and spot[1] == stop[1]
    if word == "end":
        return is_at_end(trail, spot)
    if word == "size":
        return size >= stop[1]
    if word == "around":
        return many_answerers(trail) >= stop[1]
    return done == stop[1]


def holding_in(state):
    """The ascending tuple of the stops of a state that hold."""
    program, done, stops = state
    trail, spot = place_in(program)
    size = measure(program)[0]
    return tuple([stop for stop in stops if holds_at(stop, trail, spot, size, done)])


def word_of(program):
    """The word of the next step of a program, None at an end."""
    trail, spot = place_in(program)
    if is_at_end(trail, spot):
        return None
    return STEP_WORDS[spot[0]]


def answered_by(program, deed, value):
    """The program of an answerer that goes on from a deed with a value."""
    row = (deed, "a", "b", ("call", ("name", "b"), value))
    return ("answer", program, ("a", ("name", "a")), (row,))


def state_behind(state, move):
    """The state behind a move."""
    word = move[0]
    program, done, stops = state
    if word == "step" or word == "go":
        return led_state(state, move)
    if word == "plain":
        return (plain(program), done, stops)
    if word == "stop":
        return (program, done, stops_behind(stops, move[1]))
    if word == "tell":
        whole = told_program(program, move[1])
    elif word == "answer":
        whole = answered_by(program, move[1], move[2])
    else:
        whole = put_program(program, move[1], move[2])
    if not is_within_bounds(whole):
        raise CannotMove("what comes is too great or too deep")
    return (whole, done, stops)


def led_state(state, move):
    """The state behind a step, or behind steps up to a stop."""
    program, done, stops = state
    course = Course(program)
    if done == MOST_DONE or course.ending() is not None:
        raise CannotMove("no step can be done")
    most = 1
    if move[0] == "go":
        most = min(move[1], MOST_DONE - done)
    many = 0
    is_led = True
    while is_led:
        course.advance()
        many = many + 1
        is_led = many < most and course.ending() is None and not is_stopped(course, done + many, stops)
    return (course.whole(), done + many, stops)


def is_stopped(course, done, stops):
    """Whether some stop holds where a program is on its way."""
    return any([holds_at(stop, course.trail, course.spot, course.size, done) for stop in stops])


def told_program(program, value):
    """The program with a value in the place of the do that nobody answers."""
    end = end_of(program)
    if end is None or end[0] != "unanswered":
        raise CannotMove("no deed waits for an answer")
    trail, _ = next_spot(program)
    return put_around(trail, value)


def put_program(program, path, tree):
    """The program with a tree in the place of the part to which a path leads."""
    if not fits_path(program, path):
        raise CannotMove("there is no such part")
    whole = put_by(program, path, tree)
    if not fits_program(whole):
        raise CannotMove("what comes is no program")
    return whole


def stops_behind(stops, stop):
    """The stops without a stop that is among them, or with one that is not."""
    if stop in stops:
        return tuple([one for one in stops if one != stop])
    if len(stops) == MOST_STOPS:
        raise CannotMove("there are too many stops")
    return tuple(sorted(stops + (stop,)))


def states_behind(state, play):
    """The list of the state, and of those behind each move of a play."""
    states = [state]
    for move in play:
        states.append(state_behind(states[-1], move))
    return states
