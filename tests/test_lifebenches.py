"""[91]: benches."""

import inspect
import random
import unittest

from making import NUM, A, C, X, checked, error_of, sized
from nearanswer.errors import CannotMove, InvalidMove, InvalidPath, InvalidPlay, InvalidState, NothingToRedo, NothingToUndo, TooMany
from nearanswer.lifebenches import Bench
from nearanswer.lifemoves import all_moved, moved, next_word, stops_holding
from nearanswer.lifetexts import state_picture
from nearanswer.lifevalues import Code
from nearanswer.texts import read_tree
from nearanswer.trees import all_paths, part_at
from test_lifemoves import ELEVEN, LOOP, MOVES, NO_MOVES, NO_STATES, STOPS, TWELVE
from test_refusals import NO_PATHS

START = (read_tree(A), 0, (("deed", "ask"), ("word", "plain")))
GREAT = (("let", "x", sized(1000), ("shape", "Row", (X,) * 4)), 0, ())
SOME_MOVES = MOVES + [("step",), ("step",), ("go", 3), ("plain",), ("tell", ("num", 4)), ("stop", ("word", "op")), ("answer", "ask", NUM), ("put", (0,), NUM)]
SOME_STATES = [START, (read_tree(C), 5, ELEVEN), (NUM, 10 ** 6, TWELVE), (LOOP, 10 ** 6 - 2, ()), (read_tree("1 + do ask 2"), 0, (("end",),)), GREAT]
TOO_MANY = (TooMany, {"limit": 60})


def play_on(bench, play):
    bench += play
    return bench


class Slow:
    """A bench that holds on to all calls, and does them anew from the beginning whenever it is asked."""

    def __init__(self, state):
        self.first = state
        self.calls = []
        self.gone = []

    def states(self):
        states = [self.first]
        for play in self.calls:
            states.append(all_moved(states[-1], play)[-1])
        return states

    def act(self, play):
        state = all_moved(self.states()[-1], play)[-1]
        if len(self.calls) == 60:
            raise TooMany(60)
        self.calls.append(play)
        self.gone = []
        return state


def all_of(bench):
    return (bench.state, bench.program, bench.done, bench.stops, bench.word, bench.holding, bench.log, len(bench), bool(bench), list(bench.lines()))


class LifeBenchesTest(unittest.TestCase):

    def check_bench(self, bench, slow):
        state = slow.states()[-1]
        self.assertEqual(bench.state, state)
        self.assertEqual((bench.program, bench.done, bench.stops), state)
        self.assertEqual((bench.word, bench.holding), (next_word(state[0]), stops_holding(state)))
        self.assertEqual(bench.log, tuple(move for play in slow.calls for move in play))
        self.assertEqual((len(bench), bool(bench)), (len(slow.calls), next_word(state[0]) is not None))
        texts = [" ".join(str(item) for item in stop) + ("*" if stop in stops_holding(state) else "") for stop in state[2]]
        self.assertEqual(list(bench.lines()), texts)

    def test_benches_by_chance(self):
        """Each call is looked at beside a bench that does all anew."""
        chance = random.Random(530)
        seen = {}
        for at in range(50):
            state = SOME_STATES[at % len(SOME_STATES)]
            bench, slow = Bench(state), Slow(state)
            for _ in range(25):
                kind = chance.choice(["do", "do", "play", "undo", "redo"])
                told = self.act(kind, bench, slow, chance)
                seen[kind, told] = seen.get((kind, told), 0) + 1
                self.check_bench(bench, slow)
        for kind in ("do", "play", "undo", "redo"):
            self.assertTrue(seen[kind, None] > 20 and len([one for one in seen if one[0] == kind]) > 1, seen)

    def act(self, kind, bench, slow, chance):
        """Does the same call with both, and returns the error that both raise."""
        if kind == "do":
            move = chance.choice(SOME_MOVES)
            error = error_of(slow.act, (move,))
            before = bench.state
            self.assertEqual(error_of(bench.do, move) if error else None, error)
            if not error:
                self.assertIs(bench.do(move), slow.states()[-1] != before)
        elif kind == "play":
            play = tuple(chance.choice(SOME_MOVES) for _ in range(chance.randrange(4)))
            error = error_of(slow.act, play)
            self.assertEqual(error_of(play_on, bench, play), error)
        elif kind == "undo":
            error = None if slow.calls else (NothingToUndo, {})
            self.assertEqual(error_of(bench.undo), error)
            if slow.calls:
                slow.gone.append(slow.calls.pop())
        else:
            error = None if slow.gone else (NothingToRedo, {})
            self.assertEqual(error_of(bench.redo), error)
            if slow.gone:
                slow.calls.append(slow.gone.pop())
        return error and error[0]

    def test_do(self):
        bench = Bench(START)
        self.assertIs(bench.do(("go", 9)), True)
        self.assertEqual((bench.state, bench.log, len(bench)), (moved(START, ("go", 9)), (("go", 9),), 1))
        # A move by which nothing changes is a call that can be taken back, too.
        bench.do(("plain",))
        self.assertIs(bench.do(("plain",)), False)
        self.assertEqual(len(bench), 3)
        self.assertIsNone(bench.undo())
        self.assertEqual((len(bench), bench.log), (2, (("go", 9), ("plain",))))
        self.assertIsNone(bench.redo())
        self.assertEqual(len(bench), 3)

    def test_plays(self):
        bench = Bench(START)
        same = bench
        bench += (("step",), ("step",), ("stop", ("end",)))
        self.assertIs(bench, same)
        self.assertEqual((same.done, len(same), same.log), (2, 1, (("step",), ("step",), ("stop", ("end",)))))
        bench += ()
        self.assertEqual((len(bench), bench.done, len(bench.log)), (2, 2, 3))
        bench.undo()
        self.assertEqual((len(bench), bench.done), (1, 2))
        bench.undo()
        self.assertEqual((len(bench), bench.state, bench.log), (0, START, ()))
        bench.redo()
        bench.redo()
        self.assertEqual((len(bench), bench.done), (2, 2))
        # Nothing of a play with a move that can't be done is done.
        before = all_of(bench)
        checked(self, CannotMove, play_on, bench, (("step",), ("tell", NUM)))
        self.assertEqual(all_of(bench), before)
        self.assertIs(bench, same)

    def test_undo_redo_and_a_do_between_them(self):
        bench = Bench(START)
        checked(self, NothingToUndo, bench.undo)
        checked(self, NothingToRedo, bench.redo)
        for _ in range(3):
            bench.do(("step",))
        bench.undo()
        bench.undo()
        # A call that raises an error leaves what can be done again.
        checked(self, CannotMove, bench.do, ("tell", NUM))
        checked(self, InvalidMove, bench.do, None)
        checked(self, InvalidPlay, play_on, bench, None)
        checked(self, CannotMove, play_on, bench, (("plain",), ("tell", NUM)))
        bench.redo()
        self.assertEqual(bench.done, 2)
        bench.undo()
        bench.do(("plain",))
        checked(self, NothingToRedo, bench.redo)
        self.assertEqual((bench.done, bench.log), (1, (("step",), ("plain",))))
        bench.undo()
        bench += ()
        checked(self, NothingToRedo, bench.redo)
        bench.undo()
        bench.undo()
        checked(self, NothingToUndo, bench.undo)
        self.assertEqual(bench.state, START)

    def test_sixty_calls(self):
        bench = Bench((LOOP, 0, ()))
        for many in range(60):
            self.assertEqual(len(bench), many)
            if many % 2:
                bench.do(("step",))
            else:
                bench += (("step",), ("plain",))
        before = all_of(bench)
        for action, argument in ((bench.do, ("step",)), (bench.do, ("plain",))):
            checked(self, TOO_MANY, action, argument)
        for play in ((), (("step",),), (("step",), ("step",))):
            checked(self, TOO_MANY, play_on, bench, play)
        # TooMany comes behind all other errors.
        checked(self, CannotMove, bench.do, ("tell", NUM))
        checked(self, InvalidMove, bench.do, ("other",))
        checked(self, InvalidPlay, play_on, bench, [])
        checked(self, CannotMove, play_on, bench, (("step",), ("tell", NUM)))
        self.assertEqual(all_of(bench), before)
        bench.undo()
        checked(self, CannotMove, bench.do, ("tell", NUM))
        bench.redo()
        self.assertEqual(all_of(bench), before)
        bench.undo()
        bench.do(("plain",))
        checked(self, TOO_MANY, bench.do, ("step",))
        for _ in range(60):
            bench.undo()
        self.assertEqual((bench.state, len(bench)), ((LOOP, 0, ()), 0))
        for many in range(60):
            bench.redo()
        self.assertEqual(len(bench), 60)
        great = Bench(GREAT)
        for _ in range(60):
            great.do(("plain",))
        checked(self, (TooMany, {"limit": 3000}), great.do, ("step",))
        checked(self, TOO_MANY, great.do, ("plain",))

    def test_attempts(self):
        bench = Bench(START)
        bench.do(("step",))
        bench.do(("step",))
        bench.undo()
        self.assertEqual(bench.attempt(lambda one: (one is bench, one.do(("plain",)), len(one))), (True, True, 2))
        self.assertIsNone(bench.attempt(Bench.undo))
        self.assertEqual((len(bench), bench.done), (1, 1))
        bench.redo()
        self.assertEqual((len(bench), bench.log), (2, (("step",), ("plain",))))

    def test_attempts_that_end_with_an_error(self):
        """State, log, undo and redo are as before, and the error goes on, be it one of this package or not."""
        chance = random.Random(531)
        for at in range(40):
            state = SOME_STATES[at % 5]
            bench, twin = Bench(state), Bench(state)
            for _ in range(6):
                move = chance.choice(SOME_MOVES)
                if not error_of(bench.do, move):
                    twin.do(move)
            for _ in range(at % 4):
                if len(bench):
                    bench.undo()
                    twin.undo()
            for error in (KeyError("x"), CannotMove("so"), ZeroDivisionError(), TypeError(), KeyboardInterrupt()):
                with self.assertRaises(type(error)) as caught:
                    bench.attempt(lambda one: self.acting(one, error))
                self.assertIs(caught.exception, error)
                self.assertEqual(all_of(bench), all_of(twin))
            while not error_of(twin.redo):
                bench.redo()
                self.assertEqual(all_of(bench), all_of(twin))
            checked(self, NothingToRedo, bench.redo)
            while not error_of(twin.undo):
                bench.undo()
                self.assertEqual(all_of(bench), all_of(twin))

    def acting(self, bench, error):
        if len(bench):
            bench.undo()
        bench.do(("stop", ("size", 77))) if len(bench.stops) < 12 else bench.do(("plain",))
        bench += (("plain",), ("plain",))
        bench.undo()
        raise error

    def test_attempts_within_attempts(self):
        bench = Bench(START)

        def inner(one):
            one.do(("step",))
            raise ValueError

        def outer(one):
            one.do(("plain",))
            before = all_of(one)
            self.assertRaises(ValueError, one.attempt, inner)
            self.assertEqual(all_of(one), before)
            return one.do(("step",))
        self.assertIs(bench.attempt(outer), True)
        self.assertEqual(bench.log, (("plain",), ("step",)))
        self.assertRaises(CannotMove, bench.attempt, lambda one: (outer(one), one.do(("tell", NUM))))
        self.assertEqual(bench.log, (("plain",), ("step",)))
        checked(self, TOO_MANY, bench.attempt, lambda one: [one.do(("plain",)) for _ in range(60)])
        self.assertEqual(len(bench), 2)

    def test_lines_go_step_by_step(self):
        bench = Bench((read_tree(A), 0, (("deed", "ask"), ("end",), ("word", "plain"))))
        lines = bench.lines()
        self.assertTrue(inspect.isgenerator(lines))
        self.assertEqual(next(lines), "deed ask*")
        bench.do(("go", 9))
        # The stops that come later are looked at later.
        self.assertEqual((next(lines), next(lines)), ("end", "word plain*"))
        self.assertRaises(StopIteration, next, lines)
        self.assertEqual(list(bench.lines()), ["deed ask", "end", "word plain*"])
        self.assertEqual((list(Bench((NUM, 0, ())).lines()), next(Bench((NUM, 0, STOPS_OF_ONE)).lines())), ([], "end*"))
        for stop in STOPS:
            bench = Bench((read_tree(A), 7, (stop,)))
            self.assertEqual([line.rstrip("*") for line in bench.lines()], [state_picture(bench.state).split("\n")[1]])

    def test_parts_and_paths(self):
        bench = Bench(START)
        for path in all_paths(START[0]):
            self.assertEqual((bench[path], path in bench), (part_at(START[0], path), True))
        for value in NO_PATHS + [(-1,), (True,), "x", 0, bench, None, (9, 9)]:
            if not (isinstance(value, tuple) and all(type(index) is int for index in value) and value in all_paths(START[0])):
                self.assertIs(value in bench, False)
                checked(self, InvalidPath, lambda one, path: one[path], bench, value)

    def test_iterating_and_equality(self):
        bench, other = Bench(START), Bench(START)
        for action in (iter, list, tuple, sorted, sum, lambda one: [*one]):
            self.assertRaises(TypeError, action, bench)
        self.assertTrue(bench == other and not bench != other)
        bench.do(("stop", ("end",)))
        self.assertTrue(bench != other and not bench == other)
        bench.do(("stop", ("end",)))
        # Just the states count.
        self.assertTrue(bench == other)
        self.assertFalse(Bench((read_tree("fun x -> x"), 0, ())) == Bench((read_tree("fun y -> y"), 0, ())))
        for value in (None, START, START[0], 1, "x", Code(START[0]), [bench]):
            self.assertEqual((bench == value, value == bench, bench != value), (False, False, True))

    def test_properties_and_methods_stand_in_the_class(self):
        for name in ("state", "program", "done", "stops", "word", "holding", "log"):
            self.assertIsInstance(vars(Bench)[name], property)
            with self.assertRaises(AttributeError):
                setattr(Bench(START), name, None)
        for name in ("__init__", "do", "__iadd__", "undo", "redo", "attempt", "__getitem__", "__contains__", "__len__", "__bool__", "__iter__", "__eq__", "lines"):
            self.assertIn(name, vars(Bench))
        self.assertEqual([bool(Bench((read_tree(text), 0, ()))) for text in ("1", "1 + 1", "do ask 1", "1 2", A)], [False, True, False, False, True])

    def test_wrong_arguments(self):
        for value in NO_STATES:
            checked(self, InvalidState, Bench, value)
        bench = Bench(START)
        for value in NO_MOVES:
            checked(self, InvalidMove, bench.do, value)
            checked(self, InvalidPlay, play_on, bench, (("plain",), value))
        for value in (None, [], [("step",)], (("step",),) * 31, ("step",), 1, "step", {}, bench):
            checked(self, InvalidPlay, play_on, bench, value)
        self.assertEqual(all_of(bench), all_of(Bench(START)))
        bench += (("plain",),) * 30
        self.assertEqual((len(bench), len(bench.log)), (1, 30))


STOPS_OF_ONE = (("end",), ("size", 2))

if __name__ == "__main__":
    unittest.main()
