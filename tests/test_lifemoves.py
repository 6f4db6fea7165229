"""[50], [51], [87], and of [3] that a program led on by single steps and by many at once comes to the same programs."""

import random
import unittest

from answerers import answerer_programs
from kinded import kinded_programs
from lasting import last_programs
from making import NO_NAMES, NO_PROGRAMS, NO_TREES, NUM, A, B, C, X, checked, error_of, nested, programs, sized
from nearanswer.errors import CannotMove, InvalidMove, InvalidPlay, InvalidProgram, InvalidState, InvalidTree, TooMany
from nearanswer.lifemoves import all_moved, answerers_around, is_move, is_play, is_state, is_stop, moved, next_word, stops_holding
from nearanswer.names import free_names, is_program, with_plain_names
from nearanswer.rewriting import next_place, step_of
from nearanswer.runs import course_of, run_of, words_of
from nearanswer.texts import read_tree
from nearanswer.trees import all_paths, part_at, put_at, tree_depth, tree_size
from test_talks import NO_VALUES

WORDS = ("call", "deed", "let", "match", "op", "plain", "rec")
LOOP = read_tree("rec f x = f x in f 1")
STOPS = ([("word", word) for word in WORDS] + [("deed", deed) for deed in ("ask", "pick", "a", "abcdefgh")] + [("end",), ("size", 1), ("size", 9), ("size", 3000), ("around", 1), ("around", 2), ("around", 120)]
         + [("done", number) for number in (0, 1, 7, 10 ** 6)])
NO_STOPS = [None, True, 1, "end", (), ["end"], ("end", 1), ("ends",), ("word",), ("word", "look"), ("word", "again"), ("word", ""), ("word", 1), ("word", ["op"]), ("word", "op", 1), ("word", ("op",)), ("deed",), ("deed", "ask", 1),
            ("size",), ("size", 0), ("size", 3001), ("size", True), ("size", "1"), ("size", None), ("size", 1, 2), ("around", 0), ("around", 121), ("around", -1), ("around", True), ("around",), ("done", -1), ("done", 10 ** 6 + 1),
            ("done", False), ("done", 1.0), ("done",), (("end",),), (1, 2), ("Word", "op"), ("stop", ("end",))] + [("deed", name) for name in NO_NAMES]
MOVES = [("step",), ("go", 1), ("go", 200), ("tell", NUM), ("tell", ("fun", "x", X)), ("answer", "ask", NUM), ("put", (), NUM), ("put", (0,) * 120, X), ("put", (1000, 0), X), ("plain",), ("stop", ("end",)), ("stop", ("size", 7))]
NO_MOVES = ([None, True, 1, "step", (), ["step"], ("step", 1), ("steps",), ("go",), ("go", 0), ("go", 201), ("go", True), ("go", "1"), ("go", 1, 1), ("go", -1), ("go", None), ("tell",), ("tell", NUM, NUM), ("answer", "ask"), ("answer", "ask", NUM, NUM),
             ("put", ()), ("put", (), NUM, 1), ("put", [], NUM), ("put", (0,) * 121, NUM), ("put", (-1,), NUM), ("put", (1001,), NUM), ("put", (True,), NUM), ("put", ("0",), NUM), ("put", None, NUM), ("put", 0, NUM),
             ("put", (), sized(3001)), ("put", (), nested(120)), ("plain", 1), ("stop",), ("stop", ("end",), 1), ("plain", ()), ("end",), (("step",),)]
            + [("tell", value) for value in NO_VALUES] + [("answer", "ask", value) for value in NO_VALUES] + [("answer", name, NUM) for name in NO_NAMES] + [("put", (), value) for value in NO_TREES]
            + [("stop", stop) for stop in NO_STOPS])
ELEVEN = tuple(sorted([("word", word) for word in WORDS] + [("size", 9), ("end",), ("done", 7), ("deed", "ask")]))
TWELVE = tuple(sorted(ELEVEN + (("around", 3),)))
NO_STATES = ([None, 1, (), (NUM,), (NUM, 0), (NUM, 0, (), ()), [NUM, 0, ()], (NUM, -1, ()), (NUM, 10 ** 6 + 1, ()), (NUM, True, ()), (NUM, "0", ()), (NUM, None, ()), (NUM, 0, []), (NUM, 0, None), (NUM, 0, ("end",)), (NUM, 0, (("end",), ("end",))),
              (NUM, 0, (("end",), ("done", 1))), (NUM, 0, tuple(sorted(TWELVE + (("size", 10),)))), (NUM, 0, (("size", 2), ("size", 1))), (NUM, 0, (["end"],)), (0, NUM, ()), (NUM, 0, {})]
             + [(value, 0, ()) for value in NO_TREES + NO_PROGRAMS] + [(NUM, 0, (stop,)) for stop in NO_STOPS])


def some_programs(seed, many):
    return programs(seed, many, 5) + kinded_programs(seed + 1, many // 3, 6) + last_programs(seed + 2, many // 3, 5, 0.5) + answerer_programs() + [read_tree(text) for text in (A, B, C)]


def around_by_hand(program):
    place = next_place(program)
    if place is None:
        return 0
    return len([many for many in range(len(place)) if part_at(program, place[:many])[0] == "answer"])


def holds_by_hand(stop, program, done):
    """[50], row by row."""
    if stop[0] == "word":
        return words_of(program, 1) == [stop[1]]
    if stop[0] == "deed":
        return next_place(program) is not None and part_at(program, next_place(program))[:2] == ("do", stop[1])
    if stop[0] == "end":
        return step_of(program)[0] != "step"
    if stop[0] == "size":
        return tree_size(program) >= stop[1]
    if stop[0] == "around":
        return around_by_hand(program) >= stop[1]
    return done == stop[1]


def cannot(test, state, move):
    checked(test, CannotMove, moved, state, move)


class LifeMovesTest(unittest.TestCase):

    def test_forms(self):
        for stop in STOPS:
            self.assertIs(is_stop(stop), True, stop)
            self.assertIs(is_move(("stop", stop)), True, stop)
        for stop in NO_STOPS:
            self.assertIs(is_stop(stop), False, stop)
        for move in MOVES:
            self.assertIs(is_move(move), True, move)
        for move in NO_MOVES:
            self.assertIs(is_move(move), False, move)
            self.assertIs(is_play((move,)), False, move)
            checked(self, InvalidMove, moved, (NUM, 0, ()), move)
            checked(self, InvalidPlay, all_moved, (NUM, 0, ()), (("plain",), move))
        for play in ((), tuple(MOVES), (("step",),) * 30):
            self.assertIs(is_play(play), True)
        for play in (None, [], [("step",)], (("step",),) * 31, ("step",), 1, "step", {}):
            self.assertIs(is_play(play), False)
            checked(self, InvalidPlay, all_moved, (NUM, 0, ()), play)

    def test_states(self):
        for state in ((NUM, 0, ()), (read_tree(A), 10 ** 6, (("end",),)), (NUM, 7, TWELVE), (sized(3000), 0, ELEVEN), (nested(119), 1, (("size", 1), ("size", 2)))):
            self.assertIs(is_state(state), True)
            self.assertEqual(all_moved(state, ()), [state])
        for state in NO_STATES:
            self.assertIs(is_state(state), False, state)
            checked(self, InvalidState, stops_holding, state)
            checked(self, InvalidState, moved, state, None)
            checked(self, InvalidState, all_moved, state, None)

    def test_words_and_answerers(self):
        words = set()
        for program in some_programs(480, 60):
            try:
                course = course_of(program, 40)
            except TooMany:
                continue
            for one in course:
                told = step_of(one) if not error_of(step_of, one) else None
                if told:
                    self.assertEqual(next_word(one), told[1] if told[0] == "step" else None)
                    words.add(next_word(one))
                self.assertEqual(answerers_around(one), around_by_hand(one))
        self.assertEqual(words, set(WORDS) | {None})
        self.assertEqual([answerers_around(read_tree(text)) for text in ("1", "answer 1 {plain x -> x}", "answer 1 + 1 {plain x -> x}", "answer answer 1 {plain x -> x} {plain x -> x}", "do ask 1", "answer do ask 1 {plain x -> x}",
                                                                         "answer 1 {plain x -> answer 1 + 1 {plain y -> y}}", "answer answer do tell (1 + 1) {plain x -> x} {plain x -> x} + 1")], [0, 0, 1, 1, 0, 1, 0, 2])
        # The word of a step is told though what comes would be too great.
        great = ("let", "x", sized(1000), ("shape", "Row", (X,) * 4))
        self.assertEqual(next_word(great), "let")

    def test_stops_holding(self):
        chance = random.Random(482)
        seen = {}
        for program in some_programs(481, 50):
            try:
                course = course_of(program, 12)
            except TooMany:
                continue
            for one in course[::3]:
                stops = tuple(sorted(chance.sample(STOPS + [("size", tree_size(one)), ("size", tree_size(one) + 1), ("around", 3)], 8)))
                state = (one, chance.choice([0, 1, 7, 8]), stops)
                if is_state(state) and not error_of(step_of, one):
                    told = stops_holding(state)
                    self.assertEqual(told, tuple(stop for stop in stops if holds_by_hand(stop, *state[:2])))
                    for stop in stops:
                        seen[stop[0]] = seen.get(stop[0], set()) | {stop in told}
        self.assertTrue(all(told == {True, False} for told in seen.values()), seen)
        self.assertEqual(sorted(seen), ["around", "deed", "done", "end", "size", "word"])

    def test_bounds_of_stops(self):
        deep = read_tree("1 + 1")
        for _ in range(118):
            deep = ("answer", deep, ("x", X), ())
        self.assertEqual((tree_depth(deep), answerers_around(deep)), (120, 118))
        self.assertEqual(stops_holding((deep, 0, (("around", 1), ("around", 118), ("around", 119), ("around", 120)))), (("around", 1), ("around", 118)))
        self.assertEqual(stops_holding((sized(3000), 10 ** 6, (("done", 0), ("done", 10 ** 6), ("size", 1), ("size", 3000)))), (("done", 10 ** 6), ("size", 1), ("size", 3000)))
        self.assertEqual(stops_holding((sized(2999), 0, (("size", 3000),))), ())
        # An unanswered do is the next place, too; a value has none.
        self.assertEqual(stops_holding((read_tree("1 + do ask 2"), 0, (("deed", "ask"), ("deed", "tell"), ("end",), ("word", "deed"), ("word", "op")))), (("deed", "ask"), ("end",)))
        self.assertEqual(stops_holding((read_tree("fun x -> do ask x"), 3, (("around", 1), ("deed", "ask"), ("end",)))), (("end",),))
        self.assertEqual(stops_holding((read_tree("do ask 1 + 1"), 0, (("deed", "ask"),))), (("deed", "ask"),))
        self.assertEqual(stops_holding((read_tree("do ask (1 + 1)"), 0, (("deed", "ask"), ("word", "op")))), (("word", "op"),))

    def test_steps(self):
        for program in some_programs(483, 80):
            try:
                course = course_of(program, 30)
            except TooMany:
                continue
            state = (program, 5, ELEVEN)
            for at, one in enumerate(course[:-1]):
                self.assertEqual(state, (one, 5 + at, ELEVEN))
                state = moved(state, ("step",))
            if run_of(program, 30)[0] != ("more",):
                cannot(self, state, ("step",))
                cannot(self, state, ("go", 1))

    def test_goes(self):
        """A go leads to where some stop holds, to the end, or so far, one step at least; it is as many single steps."""
        chance = random.Random(485)
        reasons = set()
        for program in some_programs(484, 120):
            stops = tuple(sorted(chance.sample(STOPS[:-1] + [("done", chance.randrange(3, 30))], chance.randrange(4))))
            most = chance.choice([1, 2, 9, 60])
            try:
                course = course_of(program, most)
            except TooMany:
                continue
            state = (program, 3, stops)
            if len(course) == 1:
                cannot(self, state, ("go", most))
                continue
            many = 1
            while many < len(course) - 1 and not any(holds_by_hand(stop, course[many], 3 + many) for stop in stops):
                many += 1
            told = moved(state, ("go", most))
            self.assertEqual(told, (course[many], 3 + many, stops))
            self.assertEqual(all_moved(state, (("step",),) * min(many, 30))[-1], (course[min(many, 30)], 3 + min(many, 30), stops))
            reasons.add("most" if many == most else "end" if step_of(told[0])[0] != "step" else "stop")
        self.assertEqual(reasons, {"most", "end", "stop"})

    def test_edges_of_goes(self):
        self.assertEqual(moved((LOOP, 0, ()), ("go", 200))[1], 200)
        self.assertEqual(moved((LOOP, 0, (("done", 0),)), ("go", 200))[1], 200)
        # A stop that holds already does not stop the first step.
        self.assertEqual(moved((LOOP, 0, (("size", 1),)), ("go", 200))[1], 1)
        self.assertEqual(moved((LOOP, 4, (("done", 4), ("done", 9))), ("go", 200))[1], 9)
        self.assertEqual([moved((LOOP, 10 ** 6 - left, ()), ("go", 5))[1] for left in (6, 5, 4, 1)], [10 ** 6 - 1, 10 ** 6, 10 ** 6, 10 ** 6])
        for move in (("step",), ("go", 1), ("go", 200)):
            cannot(self, (LOOP, 10 ** 6, ()), move)
            cannot(self, (NUM, 0, ()), move)
            cannot(self, (read_tree("do ask 1"), 0, ()), move)
            cannot(self, (read_tree("1 2"), 0, ()), move)
        self.assertEqual(moved((LOOP, 10 ** 6 - 1, ()), ("step",))[1], 10 ** 6)
        great = ("let", "x", sized(1000), ("shape", "Row", (X,) * 4))
        deep = ("let", "y", nested(60), nested(60, ("name", "y")))
        for program, limit in ((great, 3000), (deep, 120)):
            for move in (("step",), ("go", 9)):
                checked(self, (TooMany, {"limit": limit}), moved, (program, 0, ()), move)
                cannot(self, (program, 10 ** 6, ()), move)
                self.assertEqual(moved((("call", ("fun", "z", program), NUM), 0, ()), ("go", 1))[1], 1)
                checked(self, (TooMany, {"limit": limit}), moved, (("call", ("fun", "z", program), NUM), 0, ()), ("go", 2))
                # Up to where a stop holds, no further step is looked at.
                self.assertEqual(moved((("call", ("fun", "z", program), NUM), 0, (("word", "let"),)), ("go", 2))[1], 1)

    def test_tells(self):
        for program in some_programs(486, 80):
            try:
                course = course_of(program, 30)
            except TooMany:
                continue
            for one in course[-2:]:
                told = step_of(one) if not error_of(step_of, one) else ("step",)
                for value in (NUM, read_tree("Two(1, fun x -> x)")):
                    state = (one, 8, (("end",),))
                    if told[0] == "unanswered":
                        self.assertEqual(moved(state, ("tell", value)), (put_at(one, next_place(one), value), 8, (("end",),)))
                    else:
                        cannot(self, state, ("tell", value))
        for text in ("1", "1 + 1", A, "1 2", "fun x -> do ask x", "do ask (1 + 1)"):
            cannot(self, (read_tree(text), 0, ()), ("tell", NUM))
        big = ("shape", "Two", (sized(1500), ("do", "ask", NUM)))
        self.assertEqual(tree_size(moved((big, 0, ()), ("tell", sized(1499)))[0]), 3000)
        cannot(self, (big, 0, ()), ("tell", sized(1500)))
        self.assertEqual(tree_depth(moved((read_tree("1 + do ask 1"), 0, ()), ("tell", nested(118)))[0]), 120)
        cannot(self, (read_tree("1 + do ask 1"), 0, ()), ("tell", nested(119)))

    def test_answers(self):
        for program in some_programs(487, 20):
            told = moved((program, 2, ELEVEN), ("answer", "pick", read_tree("Two(1, fun a -> a)")))
            self.assertEqual(told, (("answer", program, ("a", ("name", "a")), (("pick", "a", "b", ("call", ("name", "b"), read_tree("Two(1, fun a -> a)"))),)), 2, ELEVEN))
        self.assertEqual(run_of(moved((read_tree("do ask 1 + do ask 2"), 0, ()), ("answer", "ask", ("num", 5)))[0], 99)[0], ("value", 10))
        self.assertEqual(tree_size(moved((sized(2995), 0, ()), ("answer", "ask", NUM))[0]), 3000)
        cannot(self, (sized(2996), 0, ()), ("answer", "ask", NUM))
        cannot(self, (NUM, 0, ()), ("answer", "ask", sized(2996)))
        self.assertEqual(tree_depth(moved((nested(118), 0, ()), ("answer", "ask", NUM))[0]), 120)
        cannot(self, (nested(119), 0, ()), ("answer", "ask", NUM))
        cannot(self, (NUM, 0, ()), ("answer", "ask", nested(118)))
        self.assertEqual(tree_depth(moved((NUM, 0, ()), ("answer", "ask", nested(117)))[0]), 120)

    def test_puts(self):
        chance = random.Random(489)
        can = {True: 0, False: 0}
        for program in some_programs(488, 60):
            for path in chance.sample(all_paths(program), min(4, len(all_paths(program)))) + [(5,), (0,) * 120, (1000,)]:
                for tree in (NUM, X, ("name", "k"), read_tree("fun x -> x + y")):
                    state = (program, 6, (("end",),))
                    is_there = path in all_paths(program)
                    whole = put_at(program, path, tree) if is_there else None
                    told = is_there and is_program(whole)
                    can[told] += 1
                    if told:
                        self.assertEqual(moved(state, ("put", path, tree)), (whole, 6, (("end",),)))
                    else:
                        cannot(self, state, ("put", path, tree))
        self.assertTrue(can[True] > 100 and can[False] > 100)
        self.assertEqual(moved((read_tree("fun x -> 1"), 0, ()), ("put", (0,), X))[0], read_tree("fun x -> x"))
        cannot(self, (read_tree("fun x -> 1"), 0, ()), ("put", (), X))
        two = ("shape", "Two", (sized(1500), NUM))
        self.assertEqual(tree_size(moved((two, 0, ()), ("put", (1,), sized(1499)))[0]), 3000)
        cannot(self, (two, 0, ()), ("put", (1,), sized(1500)))
        cannot(self, (two, 0, ()), ("put", (1,), nested(119)))
        self.assertEqual(tree_depth(moved((two, 0, ()), ("put", (1,), nested(118)))[0]), 120)

    def test_plain_names(self):
        for program in some_programs(490, 40):
            self.assertEqual(moved((program, 9, ELEVEN), ("plain",)), (with_plain_names(program), 9, ELEVEN))

    def test_moves_of_stops(self):
        state = (NUM, 4, ())
        for stop in STOPS:
            self.assertEqual(moved(state, ("stop", stop)), (NUM, 4, (stop,)))
            self.assertEqual(all_moved(state, (("stop", stop),) * 2)[2], state)
        self.assertEqual(moved((NUM, 0, ELEVEN), ("stop", ("around", 3))), (NUM, 0, TWELVE))
        self.assertEqual(moved((NUM, 0, TWELVE), ("stop", ("around", 3))), (NUM, 0, ELEVEN))
        for stop in STOPS:
            if stop in TWELVE:
                self.assertEqual(moved((NUM, 0, TWELVE), ("stop", stop))[2], tuple(one for one in TWELVE if one != stop))
            else:
                cannot(self, (NUM, 0, TWELVE), ("stop", stop))
        chance = random.Random(491)
        stops = chance.sample(STOPS, 12)
        self.assertEqual(all_moved(state, tuple(("stop", stop) for stop in stops))[-1][2], tuple(sorted(stops)))

    def test_plays(self):
        """A play is its moves one after another; the first move that errs tells the error."""
        chance = random.Random(493)
        moves = MOVES + [("go", 3), ("step",), ("step",), ("tell", ("num", 4)), ("put", (0,), NUM)]
        errors = set()
        for program in some_programs(492, 60):
            play = tuple(chance.choice(moves) for _ in range(chance.randrange(6)))
            states, error = [(program, 0, ())], None
            for move in play:
                error = error_of(moved, states[-1], move)
                if error:
                    break
                states.append(moved(states[-1], move))
                self.assertTrue(is_state(states[-1]))
            errors.add(error and error[0])
            if error:
                self.assertEqual(error_of(all_moved, (program, 0, ()), play), error)
            else:
                self.assertEqual(all_moved((program, 0, ()), play), states)
        self.assertTrue({None, CannotMove} <= errors)
        great = (("let", "x", sized(1000), ("shape", "Row", (X,) * 4)), 0, ())
        checked(self, TooMany, all_moved, great, (("plain",), ("step",), ("tell", NUM)))
        checked(self, CannotMove, all_moved, great, (("plain",), ("tell", NUM), ("step",)))
        self.assertEqual(len(all_moved((LOOP, 0, ()), (("step",),) * 30)), 31)

    def test_nothing_is_modified(self):
        state = (read_tree(A), 0, ELEVEN)
        before = repr(state)
        told = all_moved(state, (("step",), ("stop", ("end",)), ("plain",)))
        told.append(None)
        self.assertEqual(repr(state), before)
        self.assertEqual(free_names(state[0]), [])

    def test_wrong_programs(self):
        for action in (next_word, answerers_around):
            for value in NO_TREES:
                checked(self, InvalidTree, action, value)
            for value in NO_PROGRAMS:
                checked(self, InvalidProgram, action, value)


if __name__ == "__main__":
    unittest.main()
