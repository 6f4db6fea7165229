"""[35], [74]: runs with deeds done in place."""

import unittest

from answerers import TOLD, answerer_programs
from kinded import kinded_programs
from lasting import last_programs, word_by_hand
from making import A, B, C, NO_PROGRAMS, NO_TREES, checked, programs
from nearanswer.errors import InvalidNumber, InvalidProgram, InvalidTree, TooMany
from nearanswer.handedruns import answer_words, handed_run
from nearanswer.handing import HandedRun
from nearanswer.running import Course
from nearanswer.texts import read_tree
from nearanswer.work import nearest_answerer, row_for

LOOP = read_tree("rec f x = f x in f 1")
N = "answer 1 + do stop 5 {plain x -> x + 1; stop x k -> x}"


def by_rewriting(program, most):
    """The shown end, the steps, and the deeds answered with the words of their rows, by slow rewriting."""
    course = Course(program)
    answered = []
    many = 0
    while many < most and course.ending() is None:
        if course.spot[0] == "do":
            row = row_for(course.trail[nearest_answerer(course.trail, course.spot[1])][0], course.spot[1])
            answered.append((row[0], word_by_hand(row[3], row[2])))
        course.advance()
        many += 1
    return course.shown_ending(), many, answered


def counted(answered):
    words = [word for _, word in answered]
    return (words.count("last"), words.count("never"), words.count("once") + words.count("many"))


class HandedRunsTest(unittest.TestCase):

    def test_deeds_done_in_place_come_to_the_end_of_slow_rewriting(self):
        words = {}
        ends = {}
        told = programs(290, 100, 5) + kinded_programs(291, 60, 6) + answerer_programs() + [read_tree(text) for text in (A, B, C, N)]
        for share in (1.0, 0.6):
            told += last_programs(292, 200, 6, share) + last_programs(293, 100, 5, share, ("ask", "pick", "tell"))
        for program in told:
            for most in (0, 2, 5, 60):
                try:
                    end, many, answered = by_rewriting(program, most)
                except TooMany:
                    continue
                self.assertEqual(handed_run(program, most), (end, many, counted(answered)))
                self.assertEqual(answer_words(program, most), answered)
                ends[end[0]] = ends.get(end[0], 0) + 1
                for _, word in answered:
                    words[word] = words.get(word, 0) + 1
        self.assertEqual(sorted(ends), ["more", "stuck", "unanswered", "value"])
        self.assertEqual(sorted(words), ["last", "many", "never", "once"])
        self.assertGreater(min(words.values()), 25)

    def test_ends(self):
        for text, end in TOLD:
            self.assertEqual(handed_run(read_tree(text), 400)[0], end, text)

    def test_bodies_in_place(self):
        for text, shown, counts in [
                # The body's own deeds are answered from outside its answerer, and the value is that of the do.
                ("answer 1 + do ask 2 {plain x -> x; ask x k -> let y = x * 10 in k (y + 1)}", ("value", 22), (1, 0, 0)),
                ("answer answer do ask 1 {plain x -> x; ask x k -> k (do ask x + 1)} {plain x -> x * 2; ask y k -> k (y + 5)}", ("value", 14), (2, 0, 0)),
                ("answer do ask 1 {plain x -> x; ask x k -> k (do ask x)}", ("unanswered", "ask", 1), (1, 0, 0)),
                ("answer answer do ask 1 {plain x -> x; ask x k -> k (do tell x)} {plain x -> x; tell y l -> l y + l 10}", ("value", 11), (1, 0, 1)),
                ("answer answer do ask 1 {plain x -> x; ask x k -> k (do tell x)} {plain x -> x; tell y l -> y}", ("value", 1), (1, 1, 0)),
                ("answer answer do tell 1 + do ask 1 {plain x -> x; ask x k -> k (do tell x)} {plain x -> x; tell y l -> l (y + 1)}", ("value", 4), (3, 0, 0)),
                ("answer do ask 1 {plain x -> x; ask x k -> match x {0 -> k 5; _ -> rec f y = y in k (f 6)}}", ("value", 6), (1, 0, 0)),
                ("answer do ask 1 + 2 {plain x -> x; ask x k -> k (1 2)}", ("stuck", "call"), (1, 0, 0)),
                ("answer do ask 1 {plain x -> x; ask x k -> match x {0 -> k 5}}", ("stuck", "match"), (1, 0, 0)),
                ("answer do ask (fun x -> x) {plain x -> x; ask x k -> k One(x)}", ("value", ("One", ("fun",))), (1, 0, 0)),
                # A rest that is made goes on within a body in place, and this one within a rest.
                ("answer answer 1 + do ask 1 {plain x -> x; ask x k -> let y = do tell x in k (y + 1)} {plain x -> x; tell y l -> l (l 5)}", ("value", 9), (1, 0, 1)),
                ("let l = answer (answer 1 + do ask 1 {plain x -> x; ask x k -> k (do tell x + 1)}) {plain x -> x; tell y l -> l} in l 1 + l 2", ("value", 7), (1, 0, 1))]:
            program = read_tree(text)
            end, many, answered = by_rewriting(program, 400)
            self.assertEqual((end, counted(answered)), (shown, counts), text)
            self.assertEqual(handed_run(program, 400), (shown, many, counts), text)

    def test_rests_are_made_just_where_they_are_needed(self):
        """Where answers go on last or never, no value of the run is a rest."""
        for program in last_programs(294, 100, 5, 1.0):
            run = HandedRun(program)
            run.settle()
            for _ in range(60):
                if run.ending() is not None:
                    break
                run.advance()
                self.assertFalse(holds_rest((run.given, run.names, run.frames)))
        run = HandedRun(read_tree(B))
        run.settle()
        run.advance()
        self.assertTrue(holds_rest((run.given, run.names, run.frames)))

    def test_steps(self):
        for most in (0, 1, 400):
            self.assertEqual(handed_run(LOOP, most), (("more",), most, (0, 0, 0)))
            self.assertEqual(answer_words(LOOP, most), [])
        program = read_tree(A)
        counts = [handed_run(program, most) for most in range(7)]
        self.assertEqual([told[1] for told in counts], [0, 1, 2, 3, 4, 5, 5])
        self.assertEqual([told[2] for told in counts], [(0, 0, 0)] + [(1, 0, 0)] * 6)
        self.assertEqual([told[0] for told in counts], [("more",)] * 5 + [("value", 13)] * 2)
        self.assertEqual([len(answer_words(program, most)) for most in range(7)], [0, 1, 1, 1, 1, 1, 1])

    def test_runs_in_which_slow_rewriting_raises_an_error(self):
        """Anything may be told of them, but something is told soon."""
        for text in ("rec f x = f Two(x, x) in f 1", "rec f x = f One(x) in f 1", "rec f x = f (fun y -> x x) in f 1"):
            self.assertEqual(handed_run(read_tree(text), 400)[:2], (("more",), 400))
        self.assertEqual(handed_run(read_tree("rec f x = match x {0 -> 1; _ -> (fun y -> Two(y, y)) (f (x - 1))} in f 40"), 400)[0][0], "value")

    def test_wrong_arguments(self):
        for action in (handed_run, answer_words):
            for value in NO_TREES:
                checked(self, InvalidTree, action, value, None)
            for value in NO_PROGRAMS:
                checked(self, InvalidProgram, action, value, None)
            for most in (401, -1, True, False, None, "9", 9.0, (9,)):
                checked(self, InvalidNumber, action, LOOP, most)


def holds_rest(value):
    if isinstance(value, dict):
        return any(holds_rest(part) for part in value.values())
    if isinstance(value, tuple):
        return value[:1] == ("rest",) or any(holds_rest(part) for part in value)
    return False
