"""Programs whose deeds are done by hand, told without checks."""

from nearanswer.errors import InvalidTree, TooMany
from nearanswer.rowvalues import END, is_row_shape
from nearanswer.running import MORE, Course
from nearanswer.treeforms import put_around


def shown_row(items, last):
    """The shown form of a row of shown items, with what stands in the place of its last rest."""
    row = last
    for item in items[::-1]:
        row = ("Row", (item, row))
    return row


class ByHand:
    """Runs programs, one after another, as long as steps are left for all of them."""

    def __init__(self, most):
        self.left = most
        self.course = None
        # The end at which the program is, None if it is at none.
        self.halt = None

    def run(self, program):
        """Runs a program up to an end, or as long as steps are left; there is no end then."""
        self.take(Course(program))

    def take(self, course):
        """Goes on with a program on its way."""
        self.course = course
        self.left = self.left - course.lead(self.left)
        self.halt = course.ending()

    def asked(self, deeds):
        """Whether the program waits for one of these deeds to be done."""
        return self.halt is not None and self.halt[0] == "unanswered" and self.halt[1] in deeds

    def at_value(self):
        return self.halt is not None and self.halt[0] == "value"

    def give(self, value):
        """Puts a value in the place of the do, and runs the program on."""
        self.put(value)
        self.take(self.course)

    def put(self, value):
        """Puts a value in the place of the do."""
        try:
            self.course.give(value)
        except TooMany:
            raise InvalidTree("with a value put in by hand, the program is too great or too deep")

    def told(self):
        """What the program itself comes to."""
        return self.course.shown_ending()


class Branches:
    """A program that goes on by itself with each number of a pick, with a row of its own in each branch."""

    def __init__(self, program, row, most, deeds):
        self.by_hand = ByHand(most)
        self.row = row
        self.known = deeds
        # What is told at once in the place of all results.
        self.outcome = None
        # For each pick on the way the trail to its do, the number that is given next, how many are, and the row there.
        self.picks = []
        self.is_open = True
        self.by_hand.run(program)

    def next_result(self):
        """The pair of the value, and of the row left, at the next end that has a result; None if none comes."""
        result = None
        while result is None and self.outcome is None and (self.is_open or self.branch()):
            result = self.leave()
        return result

    def branch(self):
        """Goes on with the next number of the innermost pick that has one; False if there is none."""
        while len(self.picks) > 0 and self.picks[-1][1] >= self.picks[-1][2]:
            self.picks.pop()
        if len(self.picks) == 0:
            return False
        hand = self.by_hand
        if hand.left == 0:
            self.outcome = MORE
            return False
        trail, number, many, row = self.picks.pop()
        self.picks.append((trail, number + 1, many, row))
        self.row = row
        self.is_open = True
        hand.left = hand.left - 1
        hand.run(put_around(trail, ("num", number)))
        return True

    def leave(self):
        """Does what the program has come to by hand, and returns the result if it is at a value, None otherwise."""
        hand = self.by_hand
        if not hand.at_value() and not hand.asked(self.known):
            self.outcome = hand.told()
            return None
        if hand.asked(("next",)):
            self.give_next()
            return None
        self.is_open = False
        if hand.asked(("pick",)):
            self.pick(hand.halt[2])
        elif hand.at_value():
            return (hand.halt[1], self.row)
        return None

    def pick(self, value):
        if value[0] == "num":
            self.picks.append((list(self.by_hand.course.trail), 0, value[1], self.row))
        else:
            self.outcome = ("stuck", "number")

    def give_next(self):
        """Gives the first item of the row, and takes it away."""
        if is_row_shape(self.row):
            item, rest = self.row[2]
            self.row = rest
            self.by_hand.give(item)
        elif self.row == END:
            self.is_open = False
        else:
            self.outcome = ("stuck", "match")
