"""Runs in which deeds are done in place wherever the row that answers goes on last, told without checks.

Values are ("num", number), ("shape", tag, parts, shown), ("fun", entry, body, names) with a table of the values of
names, and ("rest", frames).
"""

from nearanswer.bindings import with_told
from nearanswer.treeforms import parts_in, with_part
from nearanswer.uses import end_indices, use_word
from nearanswer.work import fitted, row_in, stuck_at, worked_out


def shown_worked(value):
    """The shown form of a value."""
    if value[0] == "num":
        return value[1]
    if value[0] == "shape":
        return value[3]
    return "fun"


def shape_made(tag, parts):
    """The shape with these values as parts. Parts may be shared, so that it is shown by what its parts show."""
    shown = (tag, tuple([shown_worked(part) for part in parts]))
    return ("shape", tag, tuple(parts), shown)


def handed_body(body):
    """The body of a row that goes on last, each call of the rest in its ends standing for its two."""
    indices = end_indices(body)
    if len(indices) == 0:
        return body[2]
    whole = body
    for index in indices:
        whole = with_part(whole, index, handed_body(parts_in(body)[index]))
    return whole


class HandedRun:
    """A program on its way: a tree that is worked out with a table of the values of names, or a given value.

    The frames are what waits for a value, the last one first. A frame ("handed", many) waits for the value of a body
    that is done in the place of a do; the answerer is the frame that lies so many below it.
    """

    def __init__(self, program):
        self.frames = ()
        self.answered = []
        self.go(program, {})

    def go(self, tree, names):
        """Works out a tree from now on."""
        self.here = tree
        self.names = names
        self.given = None

    def hand(self, value):
        """Gives a value to the last frame from now on."""
        self.here = None
        self.given = value

    def wait(self, frame, tree):
        """Works out a tree with the same names, while a new frame waits for it."""
        self.frames = self.frames + (frame,)
        self.go(tree, self.names)

    def settle(self):
        """Does all that is no step."""
        is_going = True
        while is_going:
            if self.here is not None:
                is_going = self.enter()
            else:
                is_going = self.leave()

    def enter(self):
        """Goes to the part of the tree that is worked out first, or gives its value; False if it does a step now."""
        tree = self.here
        word = tree[0]
        if word == "rec":
            return False
        if word == "num":
            self.hand(tree)
        elif word == "name":
            self.hand(self.names[tree[1]])
        elif word == "fun":
            self.hand(("fun", tree[1], tree[2], self.names))
        elif word == "shape" and len(tree[2]) == 0:
            self.hand(shape_made(tree[1], ()))
        else:
            self.wait(self.frame_for(tree), parts_in(tree)[0])
        return True

    def frame_for(self, tree):
        """The frame that waits for the first part of a tree."""
        word = tree[0]
        if word == "call":
            return ("left", tree[2], self.names)
        if word == "op":
            return ("first", tree[1], tree[3], self.names)
        if word == "shape":
            return ("parts", tree[1], tree[2][1:], self.names, ())
        if word == "let":
            return ("let", tree[1], tree[3], self.names)
        if word == "match":
            return ("match", tree[2], self.names)
        if word == "answer":
            return ("answer", tree[2], tree[3], self.names)
        return ("do", tree[1])

    def leave(self):
        """Gives the value to a frame that waits for further parts; False if there is none such."""
        if len(self.frames) == 0 or self.frames[-1][0] not in ("left", "first", "parts"):
            return False
        frame = self.frames[-1]
        self.frames = self.frames[:-1]
        if frame[0] == "left":
            self.names = frame[2]
            self.wait(("right", self.given), frame[1])
        elif frame[0] == "first":
            self.names = frame[3]
            self.wait(("second", frame[1], self.given), frame[2])
        else:
            _, tag, trees, names, done = frame
            done = done + (self.given,)
            self.names = names
            if len(trees) == 0:
                self.hand(shape_made(tag, done))
            else:
                self.wait(("parts", tag, trees[1:], names, done), trees[0])
        return True

    def ending(self):
        """The shown form of the end, None if a step is done."""
        if self.here is not None:
            return None
        if len(self.frames) == 0:
            return ("value", shown_worked(self.given))
        frame = self.frames[-1]
        if frame[0] == "do":
            if self.answerer_at(frame[1]) is not None:
                return None
            return ("unanswered", frame[1], shown_worked(self.given))
        reason = self.stuck_reason(frame)
        if reason is None:
            return None
        return ("stuck", reason)

    def stuck_reason(self, frame):
        """The reason for which the program is stuck if the value is given to a frame, None if it is not."""
        if frame[0] == "right" and frame[1][0] != "fun" and frame[1][0] != "rest":
            return "call"
        if frame[0] == "match":
            return stuck_at(("match", self.given, frame[1]))
        if frame[0] == "second":
            return stuck_at(("op", frame[1], frame[2], self.given))
        return None

    def answerer_at(self, deed):
        """The place of the nearest answerer for a deed that is done now, None if there is none."""
        at = len(self.frames) - 1
        while at >= 0:
            frame = self.frames[at]
            if frame[0] == "answer" and row_in(frame[2], deed) is not None:
                return at
            if frame[0] == "handed":
                # The body of a row is looked for outside the answerer.
                at = at - frame[1]
            at = at - 1
        return None

    def advance(self):
        """Does the next step, and all behind it that is none."""
        if self.here is not None:
            _, name, entry, made, body = self.here
            again = ("fun", entry, ("rec", name, entry, made, made), self.names)
            self.go(body, {**self.names, name: again})
        elif self.frames[-1][0] == "do":
            self.answer(self.frames[-1][1])
        else:
            frame = self.frames[-1]
            self.frames = self.frames[:-1]
            self.give(frame)
        self.settle()

    def give(self, frame):
        """Gives the value to a frame that has been taken away."""
        word = frame[0]
        if word == "right":
            self.call(frame[1])
        elif word == "let":
            _, name, body, names = frame
            self.go(body, {**names, name: self.given})
        elif word == "answer":
            _, plain, _, names = frame
            self.go(plain[1], {**names, plain[0]: self.given})
        elif word == "match":
            self.take_row(frame)
        elif word == "second":
            self.take_result(worked_out(frame[1], frame[2][1], self.given[1]))
        # To a handed frame the value is what the do comes to.

    def call(self, one):
        if one[0] == "rest":
            self.frames = self.frames + one[1]
        else:
            _, entry, body, names = one
            self.go(body, {**names, entry: self.given})

    def take_row(self, frame):
        _, rows, names = frame
        for pattern, body in rows:
            table = fitted(pattern, self.given)
            if table is not None:
                self.go(body, with_told(names, table))
                return

    def take_result(self, result):
        if result[0] == "shape":
            self.hand(shape_made(result[1], ()))
        else:
            self.hand(result)

    def answer(self, deed):
        """Has the deed of the last frame answered."""
        at = self.answerer_at(deed)
        _, _, rows, names = self.frames[at]
        _, entry, rest, body = row_in(rows, deed)
        word = use_word(body, rest)
        self.answered.append((deed, word))
        names = {**names, entry: self.given}
        around = self.frames[:-1]
        if word == "last":
            self.frames = around + (("handed", len(around) - at),)
            body = handed_body(body)
        else:
            self.frames = around[:at]
            if word != "never":
                names[rest] = ("rest", around[at:])
        self.go(body, names)


def led_in_place(program, most):
    """The shown form of the end, or ("more",), how many steps were done, and the deeds answered, with their words."""
    run = HandedRun(program)
    run.settle()
    many = 0
    while many < most and run.ending() is None:
        run.advance()
        many = many + 1
    end = run.ending()
    if end is None:
        end = ("more",)
    return (end, many, run.answered)
