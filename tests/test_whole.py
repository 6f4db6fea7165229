"""[1], [3]: a program, with or without an answerer of the library around it, shows the same whatever runs it."""

import unittest

from jobs import DEEDS, jobs, plain_programs
from nearanswer.betterpapers import better_by, is_better_paper, made_better
from nearanswer.carried import carried_back, carried_of
from nearanswer.carriedruns import run_carried, words_carried
from nearanswer.errors import NearError
from nearanswer.flatcode import code_of, program_of_code
from nearanswer.flatforms import flat_form
from nearanswer.handedruns import handed_run
from nearanswer.handedtrees import goes_on_last, handed_tree
from nearanswer.heapruns import heap_run
from nearanswer.library import done_anew, row_value, with_choices, with_faults, with_first, with_reading, with_rows, with_state, with_turns, written_down
from nearanswer.lifemoves import all_moved
from nearanswer.lifevalues import Code
from nearanswer.looking import is_sound
from nearanswer.machine import goings_of, run_code
from nearanswer.names import with_plain_names
from nearanswer.rewriting import step_of
from nearanswer.runs import run_of, words_of
from nearanswer.shownalike import shown_by
from nearanswer.talks import talk_of
from nearanswer.texts import read_tree, tree_text
from nearanswer.trees import tree_size

ROW = row_value((("num", 4), ("num", 1), ("num", 2)))
WITH = {"state": lambda one: with_state(("num", 5), one), "faults": with_faults, "rows": with_rows, "choices": with_choices, "first": with_first,
        "turns": lambda one: with_turns((one, one)), "reading": lambda one: with_reading(ROW, one), "anew": lambda one: done_anew("ask", ROW, one)}


def told(action, *arguments):
    """What a call tells, None if it raises an error of the package."""
    try:
        return action(*arguments)
    except NearError:
        return None


def some_programs(seed):
    for kind in DEEDS:
        for one in jobs(seed, kind, 7, 3) + plain_programs()[:2]:
            yield one
            yield WITH[kind](one)
            yield with_faults(WITH[kind](one))
        yield written_down("ask", jobs(seed, "anew", 1)[0])


class WholeTest(unittest.TestCase):

    def each(self, seed, most):
        """The programs that come to an end within so many steps, with the shown form of it, and their steps."""
        for program in some_programs(seed):
            run = told(run_of, program, most)
            if run and run[0] != ("more",):
                yield program, run[0], run[1]

    def check_end(self, run, end):
        """What is run comes to the end, if no bound stops it."""
        if run is None or run[0] == ("more",):
            return 0
        self.assertEqual(run[0], end)
        return 1

    def test_all_that_runs_shows_the_same(self):
        counts = [0] * 8
        ends = set()
        for program, end, many in self.each(540, 120):
            ends.add(end[0])
            code = code_of(program) if tree_size(program) <= 400 else None
            runs = [told(shown_by, program, engine, 3000) for engine in ("trees", "next")]
            runs += [told(run_code, code, 2000, "copied") if code else None, told(heap_run, program, 2000, "copy", 7), told(heap_run, program, 2000, "none", 1)]
            runs += [told(handed_run, program, 400), told(shown_by, made_better(program, 20)[0] if tree_size(program) <= 400 else program, "rewriting", 3000)]
            flat = told(flat_form, program)
            runs.append(told(run_carried, carried_of(flat), 400) if flat else None)
            for at, run in enumerate(runs):
                counts[at] += self.check_end(run, end)
            self.assertEqual(runs[5][1], many)
        self.assertTrue(min(counts) > 30, counts)
        self.assertEqual(ends, {"value", "unanswered", "stuck"})

    def test_steps_at_once_from_texts_and_from_benches(self):
        for program, end, many in self.each(541, 100):
            behind = [program]
            while step_of(behind[-1])[0] == "step":
                behind.append(step_of(behind[-1])[2])
            self.assertEqual(len(behind) - 1, many)
            self.assertEqual((Code(program) >> 400).tree, behind[-1])
            if many:
                states = all_moved((program, 0, ()), (("go", (many + 1) // 2), ("go", 200))[:1 + (many > 1)])
                self.assertEqual(states[-1], (behind[-1], many, ()))
            for one in behind[::7]:
                text = tree_text(one)
                if told(read_tree, text):
                    self.assertEqual(read_tree(text), one)
            self.assertEqual(talk_of(program, (), 400), ([], end))

    def test_other_forms_lead_back(self):
        for program, end, _ in self.each(542, 60):
            plain = with_plain_names(program)
            self.assertEqual(run_of(plain, 400)[0], end)
            if tree_size(program) <= 400:
                code = code_of(program)
                self.assertTrue(is_sound(code))
                self.assertEqual((program_of_code(code), code_of(plain)), (plain, code))
                moved, copied = told(run_code, code, 2000, "moved"), told(run_code, code, 2000, "copied")
                if moved and copied and copied[0] != ("more",):
                    goings = goings_of(code, 2000)
                    self.assertEqual(moved[0] == copied[0], len(goings) == len(set(goings)))
                tree, paper = made_better(program, 30)
                self.assertTrue(is_better_paper(program, paper))
                self.assertEqual(better_by(program, paper), tree)
            flat = told(flat_form, program)
            if flat:
                self.assertEqual(carried_back(carried_of(flat)), flat)
                self.assertEqual(words_carried(carried_of(flat), 400).count("deed"), words_of(program, 400).count("deed"))
            if goes_on_last(program):
                handed = told(handed_tree, program)
                if handed:
                    self.check_end(told(shown_by, handed, "rewriting", 3000), end)


if __name__ == "__main__":
    unittest.main()
