"""Benches, on which states are moved, and moves taken back."""

from nearanswer.checks import check_path
from nearanswer.errors import NothingToRedo, NothingToUndo, TooMany
from nearanswer.lifeforms import check_move, check_play, check_state
from nearanswer.lifetexts import stop_text
from nearanswer.moving import holding_in, state_behind, states_behind, word_of
from nearanswer.treeforms import fits_path, part_by
from nearanswer.work import end_of

MOST_CALLS = 60


class Bench:
    """A state that moves change.

    The calls that can be taken back are triples of the state ahead of them, of their moves, and of the state behind
    them, the last call last; those that can be done again are such triples, too, the next one last.
    """

    def __init__(self, state):
        check_state(state)
        self._state = state
        self._calls = ()
        self._gone = ()

    @property
    def state(self):
        """The state."""
        return self._state

    @property
    def program(self):
        """The program of the state."""
        return self._state[0]

    @property
    def done(self):
        """How many steps have been done."""
        return self._state[1]

    @property
    def stops(self):
        """The stops of the state."""
        return self._state[2]

    @property
    def word(self):
        """The word of the next step, None at an end."""
        return word_of(self._state[0])

    @property
    def holding(self):
        """The stops that hold."""
        return holding_in(self._state)

    @property
    def log(self):
        """The tuple of all moves of the calls that can be taken back."""
        moves = []
        for _, play, _ in self._calls:
            moves.extend(play)
        return tuple(moves)

    def do(self, move):
        """Does a move, and returns whether the state is another one then."""
        check_move(move)
        before = self._state
        self._note((move,), state_behind(before, move))
        return self._state != before

    def __iadd__(self, other):
        """Does all moves of a play as one call."""
        check_play(other)
        self._note(other, states_behind(self._state, other)[-1])
        return self

    def _note(self, play, state):
        """Notes a call with its moves, and the state behind it."""
        if len(self._calls) == MOST_CALLS:
            raise TooMany(MOST_CALLS)
        self._calls = self._calls + ((self._state, play, state),)
        self._gone = ()
        self._state = state

    def undo(self):
        """Takes back the last call that can be."""
        if len(self._calls) == 0:
            raise NothingToUndo("there is no call to take back")
        call = self._calls[-1]
        self._calls = self._calls[:-1]
        self._gone = self._gone + (call,)
        self._state = call[0]

    def redo(self):
        """Does the last call again that was taken back."""
        if len(self._gone) == 0:
            raise NothingToRedo("there is no call to do again")
        call = self._gone[-1]
        self._gone = self._gone[:-1]
        self._calls = self._calls + (call,)
        self._state = call[2]

    def attempt(self, action):
        """Calls a function with the bench; if it ends with an error, all is as it was before."""
        state = self._state
        calls = self._calls
        gone = self._gone
        failed = True
        try:
            told = action(self)
            failed = None
        finally:
            if failed is not None:
                self._state = state
                self._calls = calls
                self._gone = gone
        return told

    def lines(self):
        """Yields the text of each stop, with a star behind it if it holds."""
        for stop in self._state[2]:
            # What holds is told by the state as it is when a text is asked for.
            if stop in holding_in(self._state):
                yield stop_text(stop) + "*"
            else:
                yield stop_text(stop)

    def __getitem__(self, at):
        """The part of the program to which a path leads."""
        check_path(self._state[0], at)
        return part_by(self._state[0], at)

    def __contains__(self, x):
        """Whether any value is a path of the program."""
        return fits_path(self._state[0], x)

    def __iter__(self):
        raise TypeError("a Bench is not iterated over")

    def __len__(self):
        """How many calls can be taken back."""
        return len(self._calls)

    def __bool__(self):
        """Whether the program is not at an end."""
        return end_of(self._state[0]) is None

    def __eq__(self, other):
        """Whether the other one is a bench, too, and both states are the same."""
        return isinstance(other, Bench) and self._state == other._state
