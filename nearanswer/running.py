"""Programs led on by many steps, told without checks."""

from nearanswer.errors import TooMany
from nearanswer.treeforms import MOST_DEPTH, MOST_SIZE, measure, parts_in, put_around, with_part
from nearanswer.work import (STEP_WORDS, answering, changed_at, holds_value, nearest_answerer, shown_end, stop_at,
                             working_index)

MORE = ("more",)


class Course:
    """A program on its way, held as the trail to its next place and the tree there, of a value without a trail.

    Only what a step changes is measured: all else is as deep as it was, and so not too deep.
    """

    def __init__(self, program):
        self.trail = []
        self.spot = program
        self.size = measure(program)[0]
        self.seek()

    def seek(self):
        """Finds the next place from a tree on that has been changed; it lies in this tree or behind it."""
        is_done = holds_value(self.spot)
        while is_done and len(self.trail) > 0:
            tree, index = self.trail.pop()
            self.spot = with_part(tree, index, self.spot)
            is_done = holds_value(self.spot)
        index = None
        if not is_done:
            index = working_index(self.spot)
        while index is not None:
            self.trail.append((self.spot, index))
            self.spot = parts_in(self.spot)[index]
            index = working_index(self.spot)

    def whole(self):
        """The program."""
        return put_around(self.trail, self.spot)

    def ending(self):
        """The end at which the program is, None if it does a step."""
        if holds_value(self.spot):
            return ("value", self.spot)
        return stop_at(self.trail, self.spot)

    def shown_ending(self):
        """The shown form of the end, ("more",) if the program does a step."""
        end = self.ending()
        if end is None:
            return MORE
        return shown_end(end)

    def advance(self):
        """Does the next step, and returns its word."""
        word = STEP_WORDS[self.spot[0]]
        if word == "deed":
            at = nearest_answerer(self.trail, self.spot[1])
            body = answering(self.trail, self.spot, at)
            gone = put_around(self.trail[at:], self.spot)
            self.trail = self.trail[:at]
            self.change(gone, body)
        else:
            self.change(self.spot, changed_at(self.spot))
        return word

    def give(self, value):
        """Puts a value in the place of the do that is next."""
        self.change(self.spot, value)

    def change(self, gone, tree):
        """Puts a tree in the place of one that goes, at the end of the trail."""
        size, depth = measure(tree)
        self.size = self.size - measure(gone)[0] + size
        self.spot = tree
        if self.size > MOST_SIZE:
            raise TooMany(MOST_SIZE)
        if len(self.trail) + depth > MOST_DEPTH:
            raise TooMany(MOST_DEPTH)
        self.seek()

    def lead(self, most):
        """Does steps up to the end, so many at most, and returns how many it did."""
        many = 0
        while many < most and self.ending() is None:
            self.advance()
            many = many + 1
        return many
