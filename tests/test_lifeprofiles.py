"""[52], [88]: profiles of runs, and the places at which they worked."""

import unittest

from making import NO_PROGRAMS, NO_TREES, NUM, A, B, C, X, checked, nested, sized
from nearanswer.errors import InvalidNumber, InvalidProgram, InvalidTree, TooMany
from nearanswer.lifemoves import answerers_around
from nearanswer.lifeprofiles import places_worked, profile
from nearanswer.rewriting import next_place
from nearanswer.runs import course_of, deeds_of, words_of
from nearanswer.texts import read_tree
from nearanswer.trees import tree_size
from test_lifemoves import LOOP, some_programs


def tally(things):
    return sorted((thing, things.count(thing)) for thing in set(things))


class LifeProfilesTest(unittest.TestCase):

    def test_profiles(self):
        words, deeds, around = set(), set(), set()
        for at, program in enumerate(some_programs(500, 150)):
            most = (0, 1, 9, 60)[at % 4]
            try:
                course = course_of(program, most)
            except TooMany as error:
                checked(self, (TooMany, {"limit": error.limit}), profile, program, most)
                checked(self, (TooMany, {"limit": error.limit}), places_worked, program, most)
                continue
            answered = [deed for deed, _, _ in deeds_of(program, most)]
            told = profile(program, most)
            self.assertEqual(told, (tuple(tally(words_of(program, most))), tuple(tally(answered)), max(tree_size(one) for one in course), max(answerers_around(one) for one in course)))
            self.assertEqual(places_worked(program, most), tally([next_place(one) for one in course[:-1]]))
            words.update(word for word, _ in told[0])
            deeds.update(deed for deed, _ in told[1])
            around.add(told[3])
        self.assertEqual((len(words), len(deeds) > 1, {0, 1, 2, 3} <= around), (7, True, True))

    def test_small_programs(self):
        self.assertEqual(profile(NUM, 400), ((), (), 1, 0))
        self.assertEqual(places_worked(NUM, 400), [])
        self.assertEqual(profile(read_tree(A), 0), ((), (), tree_size(read_tree(A)), 1))
        # The first and the last program count, too, and answerers around an end that is unanswered.
        self.assertEqual(profile(read_tree("answer do tell 1 {plain x -> x}"), 9), ((), (), 4, 1))
        self.assertEqual(profile(read_tree("let x = Two(1, 2) in Three(x, x, x)"), 9), ((("let", 1),), (), 10, 0))
        self.assertEqual(profile(read_tree("let x = 1 in answer 1 + 1 {plain x -> x}"), 9)[2:], (7, 1))
        self.assertEqual(profile(read_tree(B), 99)[1], (("pick", 1),))
        self.assertEqual(profile(read_tree("answer do b 1 + do a 2 + do b 3 {plain x -> x; a x k -> k x; b x k -> k x}"), 99)[1], (("a", 1), ("b", 2)))
        self.assertEqual(places_worked(read_tree("1 + (2 + 3) * 4"), 9), [((), 1), ((1,), 1), ((1, 0), 1)])
        self.assertEqual(profile(LOOP, 400)[0], (("call", 200), ("rec", 200)))
        self.assertEqual(places_worked(LOOP, 400), [((), 400)])
        self.assertEqual(profile(read_tree(C), 400), profile(read_tree(C), 300))

    def test_errors_at_last(self):
        great = ("let", "x", sized(1000), ("shape", "Row", (X,) * 4))
        deep = ("let", "y", nested(60), nested(60, ("name", "y")))
        for action in (profile, places_worked):
            for program, limit in ((great, 3000), (deep, 120)):
                checked(self, (TooMany, {"limit": limit}), action, program, 1)
                action(program, 0)
            for value in NO_TREES:
                checked(self, InvalidTree, action, value, None)
            for value in NO_PROGRAMS:
                checked(self, InvalidProgram, action, value, None)
            for value in [401, -1, True, False, None, "9", 9.0, (9,), 10 ** 100]:
                checked(self, InvalidNumber, action, great, value)


if __name__ == "__main__":
    unittest.main()
