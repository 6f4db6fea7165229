"""The helper running: many steps at once come to what single steps come to."""

import unittest

from answerers import TOLD, answerer_programs
from kinded import kinded_programs
from making import NUM, checked, programs, sized
from model import Model
from nearanswer.errors import TooMany
from nearanswer.rewriting import next_place, step_of
from nearanswer.running import Course
from nearanswer.texts import read_tree
from nearanswer.trees import put_at


def by_single_steps(program, most):
    """The last program, the words of the steps, and what comes next: an end, ("step",), or the limit of an error."""
    words = []
    while True:
        try:
            told = step_of(program)
        except TooMany as error:
            return (program, words, error.limit)
        if told[0] != "step":
            return (program, words, told)
        if len(words) == most:
            return (program, words, ("step",))
        words.append(told[1])
        program = told[2]


def by_course(program, most):
    course = Course(program)
    words = []
    while len(words) < most and course.ending() is None:
        before = course.whole()
        try:
            words.append(course.advance())
        except TooMany as error:
            return (before, words, error.limit)
    return (course.whole(), words, course.ending() or ("step",))


class CourseTest(unittest.TestCase):

    def test_courses_go_by_single_steps(self):
        limits = 0
        for program in programs(200, 300, 5) + kinded_programs(201, 200, 6) + answerer_programs():
            told = by_single_steps(program, 40)
            if told[2] in (3000, 120) and len(told[1]) == 40:
                continue
            limits += told[2] in (3000, 120)
            self.assertEqual(by_course(program, 40), told)
        self.assertGreater(limits, 0)

    def test_bounds(self):
        grows = read_tree("rec f x = f Two(x, x) in f 1")
        deepens = read_tree("rec f x = f One(x) in f 1")
        for program, limit in [(grows, 3000), (deepens, 120)]:
            told = by_single_steps(program, 3000)
            self.assertEqual(told[2], limit)
            self.assertEqual(by_course(program, 3000), told)

    def test_a_depth_that_goes_again(self):
        """What has been deep, and is no more, may become deep at another place."""
        deep = NUM
        for _ in range(100):
            deep = ("op", "+", NUM, deep)
        program = ("op", "+", deep, deep)
        course = Course(program)
        self.assertEqual(course.lead(3000), 201)
        self.assertEqual(course.ending(), ("value", ("num", 202)))
        nest = ("fun", "x", deep)
        program = ("let", "f", nest, ("op", "+", ("call", ("name", "f"), NUM), ("call", ("name", "f"), NUM)))
        self.assertEqual(by_course(program, 400), by_single_steps(program, 400))

    def test_values_given(self):
        for text in ("do ask 1 + 2", "Two(do ask 1, do ask 2)", "match do ask 1 {x -> x + x}", "do ask (do ask 1)"):
            program = read_tree(text)
            course = Course(program)
            course.give(("num", 7))
            self.assertEqual(course.whole(), put_at(program, next_place(program), ("num", 7)))
        course = Course(("op", "+", ("do", "ask", NUM), NUM))
        checked(self, (TooMany, {"limit": 3000}), course.give, sized(2999))

    def test_ends(self):
        for text, end in TOLD:
            course = Course(read_tree(text))
            course.lead(3000)
            self.assertEqual(course.shown_ending(), end, text)
            self.assertEqual(Model(20000).end(read_tree(text)), end, text)
