"""Pictures of states, written and read."""

from nearanswer.errors import InvalidPicture, InvalidProgram, InvalidText, InvalidTree
from nearanswer.lifeforms import check_state, fits_state
from nearanswer.reading import is_figures
from nearanswer.texts import read_tree, text_in
from nearanswer.treeforms import is_short


def stop_text(stop):
    """The items of a stop with blanks between them."""
    return " ".join([str(item) for item in stop])


def picture_of(state):
    program, done, stops = state
    return "\n".join([str(done), "; ".join([stop_text(stop) for stop in stops]), text_in(program, 0)])


def state_picture(state):
    """The picture of a state."""
    check_state(state)
    if not is_short(state[0]):
        raise InvalidProgram("this program is not short")
    return picture_of(state)


def read_picture(value):
    """The state whose picture a value is."""
    state = state_seen(value)
    if state is None or not fits_state(state) or picture_of(state) != value:
        raise InvalidPicture("this is no picture of a state")
    return state


def state_seen(value):
    """What a value shows if it is a picture, None if it is none for sure."""
    if type(value) is not str:
        return None
    rows = value.split("\n")
    if len(rows) != 3:
        return None
    done, told, text = rows
    try:
        program = read_tree(text)
    except (InvalidText, InvalidTree):
        return None
    stops = []
    if told != "":
        stops = [stop_seen(one.split(" ")) for one in told.split("; ")]
    return (program, number_seen(done), tuple(stops))


def stop_seen(words):
    """The stop that some words show, if they show one."""
    if words[0] in ("word", "deed"):
        return tuple(words)
    return tuple([words[0]] + [number_seen(word) for word in words[1:]])


def number_seen(figures):
    """The number that figures show, None for what is none, or too great for a state."""
    if not is_figures(figures) or len(figures) > 7:
        return None
    return int(figures)
