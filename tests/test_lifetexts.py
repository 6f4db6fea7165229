"""[89], and of [3] that a program led on from a picture read again comes to the same programs."""

import random
import unittest

from making import NO_TREES, NUM, A, B, C, checked, nested, programs, sized
from nearanswer.errors import CannotMove, InvalidPicture, InvalidProgram, InvalidState, TooMany
from nearanswer.lifemoves import is_state, moved
from nearanswer.lifetexts import read_picture, state_picture
from nearanswer.texts import read_tree, tree_text
from nearanswer.trees import tree_depth, tree_size
from test_lifemoves import NO_STATES, STOPS, TWELVE, some_programs

SIGNS = [" ", "\n", ";", "0", "1", "9", "a", "A", "#", "-", "(", "x", "; ", "\t", "\r", "e"]


def is_short_enough(program):
    try:
        return read_tree(tree_text(program)) == program
    except Exception:
        return False


def some_states(seed, many):
    chance = random.Random(seed)
    for program in some_programs(seed + 1, many):
        if is_short_enough(program):
            stops = tuple(sorted(chance.sample(STOPS, chance.randrange(6))))
            yield (program, chance.choice([0, 1, 9, 10, 123456, 10 ** 6]), stops)


class LifeTextsTest(unittest.TestCase):

    def test_pictures(self):
        for state in some_states(510, 100):
            picture = state_picture(state)
            stops = [" ".join(str(item) for item in stop) for stop in state[2]]
            self.assertEqual(picture.split("\n"), [str(state[1]), "; ".join(stops), tree_text(state[0])])
            self.assertEqual(read_picture(picture), state)

    def test_small_pictures(self):
        self.assertEqual(state_picture((NUM, 0, ())), "0\n\n1")
        self.assertEqual(state_picture((read_tree("fun x -> x"), 10 ** 6, (("end",),))), "1000000\nend\nfun x -> x")
        picture = "7\naround 3; deed ask; done 7; end; size 9; word call; word deed; word let; word match; word op; word plain; word rec\n" + A
        self.assertEqual(state_picture((read_tree(A), 7, TWELVE)), picture)
        self.assertEqual(read_picture(picture), (read_tree(A), 7, TWELVE))

    def test_bent_pictures(self):
        """A picture with a sign put in, left out or changed is one just if it is the picture of what is read."""
        chance = random.Random(512)
        good = bad = 0
        for state in list(some_states(511, 40)) * 12:
            picture = state_picture(state)
            at = chance.randrange(len(picture) + 1)
            bent = picture[:at] + chance.choice(["", chance.choice(SIGNS), chance.choice(SIGNS)]) + picture[at + chance.randrange(2):]
            try:
                told = read_picture(bent)
            except InvalidPicture:
                bad += 1
                if bent == picture:
                    self.fail(picture)
                continue
            self.assertTrue(is_state(told))
            self.assertEqual(state_picture(told), bent)
            good += 1
        self.assertTrue(good > 50 and bad > 200, (good, bad))

    def test_what_is_no_picture(self):
        for value in (None, 0, True, b"0\n\n1", ["0", "", "1"], ("0\n\n1",), NUM, (NUM, 0, ()), "", "\n", "\n\n", "0\n1", "0\n\n", "0\n\n\n1", "0\n\n1\n", "\n0\n\n1", " 0\n\n1", "0 \n\n1", "0\n \n1", "0\n\n 1", "0\n\n1 ", "00\n\n1", "01\n\n1",
                      "-1\n\n1", "+1\n\n1", "1000001\n\n1", "9" * 30 + "\n\n1", "0.0\n\n1", "x\n\n1", "0\n\nx", "0\n\nfun y -> x", "0\n\n(1)", "0\n\n1+2", "0\n\n1 + 2 # so", "0\n\n1 +", "0\n\n1 1 )", "0\n\n?", "0\n\nrec f f = 1 in f",
                      "0\nend;\n1", "0\nend; \n1", "0\n; end\n1", "0\nend;done 1\n1", "0\nend;  size 1\n1", "0\nend; end\n1", "0\nend; done 1\n1", "0\nEnd\n1", "0\nend 1\n1", "0\nword look\n1", "0\nword\n1", "0\nword  op\n1", "0\ndeed fun\n1",
                      "0\ndeed Ask\n1", "0\ndeed ask tell\n1", "0\nsize 0\n1", "0\nsize 01\n1", "0\nsize +1\n1", "0\nsize 3001\n1", "0\nsize\n1", "0\nsize 1 2\n1", "0\nsize x\n1", "0\naround 121\n1", "0\naround 0\n1", "0\ndone -1\n1", "0\ndone 1000001\n1",
                      "0\r\n\r\n1", "0\n\n" + "(" * 90 + "1" + ")" * 90, "0\n" + "; ".join("size " + str(size) for size in range(11, 24)) + "\n1", "0\ndone 10; done 9\n1", "\u0660\n\n1", "0\nsize \u0661\n1"):
            checked(self, InvalidPicture, read_picture, value)
        self.assertEqual(read_picture("0\ndone 9; done 10\n1")[2], (("done", 9), ("done", 10)))
        self.assertEqual(read_picture("0\n" + "; ".join("size " + str(size) for size in range(11, 23)) + "\n1")[1:], (0, tuple(("size", size) for size in range(11, 23))))

    def test_programs_that_are_not_short(self):
        for program, is_short in ((sized(400), True), (sized(401), False), (nested(39), True), (nested(40), False)):
            self.assertEqual(tree_size(program) <= 400 and tree_depth(program) <= 40, is_short)
            if is_short:
                self.assertEqual(read_picture(state_picture((program, 0, ()))), (program, 0, ()))
            else:
                checked(self, InvalidProgram, state_picture, (program, 0, ()))
                checked(self, InvalidPicture, read_picture, "0\n\n" + tree_text(program))
        for many, is_short in ((60, True), (61, False)):
            parts = [("shape", "Row", (("fun", "x", NUM),) * 4)] * (many // 4) + [("fun", "x", NUM)] * (many % 4)
            while len(parts) > 4:
                parts = [("shape", "Row", tuple(parts[at:at + 4])) for at in range(0, len(parts), 4)]
            program = ("shape", "Row", tuple(parts))
            if is_short:
                self.assertEqual(read_picture(state_picture((program, 0, ())))[0], program)
            else:
                checked(self, InvalidProgram, state_picture, (program, 0, ()))
                checked(self, InvalidPicture, read_picture, "0\n\n" + tree_text(program))

    def test_led_on_from_pictures(self):
        """A state led on and one read again from its picture come to the same states."""
        chance = random.Random(514)
        many = 0
        for state in some_states(513, 60):
            for _ in range(8):
                move = chance.choice([("step",), ("go", 1), ("go", 7), ("plain",), ("tell", NUM), ("stop", ("end",))])
                if not is_short_enough(state[0]):
                    break
                try:
                    told = moved(state, move)
                except (CannotMove, TooMany):
                    continue
                self.assertEqual(moved(read_picture(state_picture(state)), move), told)
                state = told
                many += 1
        self.assertGreater(many, 200)

    def test_wrong_arguments(self):
        for value in NO_STATES + NO_TREES:
            checked(self, InvalidState, state_picture, value)
        for program in programs(515, 10, 3) + [read_tree(text) for text in (A, B, C)]:
            self.assertEqual(read_picture(state_picture((program, 3, ())))[0], program)


if __name__ == "__main__":
    unittest.main()
