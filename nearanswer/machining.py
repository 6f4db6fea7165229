"""The machine for sound codes, told without checks.

Values are ("num", number), ("shape", tag, parts, depth, shown), ("fun", block, bound) and ("rest", number, pieces).
A frame is (block, place, bound, operands), a piece (answerer, frames), an answerer (rows, bound) or None.
"""

from nearanswer.errors import TooMany
from nearanswer.treeforms import MOST_NUMBER

MOST_SHAPE_DEPTH = 100
SIGN_TAGS = {True: "Yes", False: "No"}


def shown_operand(value):
    """The shown form of a value."""
    if value[0] == "num":
        return value[1]
    if value[0] == "shape":
        return value[4]
    return "fun"


def depth_of(value):
    if value[0] == "shape":
        return value[3]
    return 1


def shape_made(tag, parts):
    """The shape with these values as parts. Parts may be shared, so that it is shown by what its parts show."""
    depth = 1 + max([depth_of(part) for part in parts], default=0)
    if depth > MOST_SHAPE_DEPTH:
        raise TooMany(MOST_SHAPE_DEPTH)
    shown = (tag, tuple([shown_operand(part) for part in parts]))
    return ("shape", tag, tuple(parts), depth, shown)


def bound_by(pattern, value):
    """The values that a flat pattern binds in a value, in order; None if it does not fit."""
    found = []
    waiting = [(pattern, value)]
    while waiting:
        one, part = waiting.pop()
        if one[0] == "bind":
            found.append(part)
        elif one[0] == "numis" and part != ("num", one[1]):
            return None
        elif one[0] == "shapeis":
            if part[0] != "shape" or part[1] != one[1] or len(part[2]) != len(one[2]):
                return None
            waiting.extend(list(zip(one[2], part[2]))[::-1])
    return tuple(found)


def row_block(answerer, deed):
    """The block of an answerer's row for a deed, None if it has none."""
    if answerer is None:
        return None
    return dict(answerer[0]).get(deed)


class Machine:
    """A code on its way. The highest piece is the last one, and in it the highest frame."""

    def __init__(self, code, is_moving):
        self.code = code
        self.is_moving = is_moving
        self.pieces = ((None, ((0, 0, (), ()),)),)
        self.many_rests = 0
        # The pairs of the number of a rest and of how many frames it has, of all goings.
        self.goings = []
        self.moved = {}
        self.stopped = None

    def frame(self):
        """The highest frame."""
        return self.pieces[-1][1][-1]

    def with_frames(self, answerer, frames):
        """Puts another piece in the place of the highest one."""
        self.pieces = self.pieces[:-1] + ((answerer, frames),)

    def set_frame(self, frame):
        """Puts another frame in the place of the highest one."""
        answerer, frames = self.pieces[-1]
        self.with_frames(answerer, frames[:-1] + (frame,))

    def lay(self, frame):
        """Lays a frame above the highest one."""
        answerer, frames = self.pieces[-1]
        self.with_frames(answerer, frames + (frame,))

    def put(self, value):
        """Puts an operand to the highest frame."""
        block, place, bound, operands = self.frame()
        self.set_frame((block, place, bound, operands + (value,)))

    def next_order(self):
        block, place, _, _ = self.frame()
        return self.code[block][2][place]

    def advance(self):
        """Does the next order; True if it is done, False if the machine ends there without doing it."""
        order = self.next_order()
        word = order[0]
        block, place, bound, operands = self.frame()
        self.set_frame((block, place + 1, bound, operands))
        if word in ("num", "get", "fun", "own", "bind", "free", "shape"):
            self.work(order)
        elif word in ("test", "go"):
            self.lead_on(order)
        elif word == "op":
            self.op(order[1])
        elif word == "call":
            self.call()
        elif word == "do":
            self.do(order[1])
        elif word == "lack":
            self.stopped = ("stuck", "match")
        else:
            self.change_pieces(order)
            return True
        return self.stopped is None

    def work(self, order):
        """Does an order that changes what is bound and the operands alone."""
        word = order[0]
        block, place, bound, operands = self.frame()
        if word == "num":
            operands = operands + (order,)
        elif word == "get":
            operands = operands + (bound[-1 - order[1]],)
        elif word == "fun" or word == "own":
            operands = operands + (("fun", order[1], bound),)
        elif word == "bind":
            bound = bound + operands[-1:]
            operands = operands[:-1]
        elif word == "free":
            bound = bound[:len(bound) - order[1]]
        else:
            many = len(operands) - order[2]
            operands = operands[:many] + (shape_made(order[1], operands[many:]),)
        self.set_frame((block, place, bound, operands))

    def lead_on(self, order):
        """Does a test or a go."""
        block, place, bound, operands = self.frame()
        more = None
        if order[0] == "test":
            more = bound_by(order[1], operands[-1])
        if more is None:
            self.set_frame((block, order[-1], bound, operands))
        else:
            self.set_frame((block, place, bound + more, operands[:-1]))

    def taken(self, many):
        """The last operands of the highest frame, which are taken away."""
        block, place, bound, operands = self.frame()
        left = len(operands) - many
        self.set_frame((block, place, bound, operands[:left]))
        return operands[left:]

    def op(self, sign):
        one, two = self.taken(2)
        if one[0] != "num" or two[0] != "num":
            self.stopped = ("stuck", "number")
        elif sign == "<":
            self.put(shape_made(SIGN_TAGS[one[1] < two[1]], ()))
        elif sign == "=":
            self.put(shape_made(SIGN_TAGS[one[1] == two[1]], ()))
        else:
            self.put_number({"+": one[1] + two[1], "-": one[1] - two[1], "*": one[1] * two[1]}[sign])

    def put_number(self, number):
        if abs(number) > MOST_NUMBER:
            self.stopped = ("stuck", "great")
        else:
            self.put(("num", number))

    def call(self):
        one, two = self.taken(2)
        if one[0] == "fun":
            bound = one[2]
            if self.code[one[1]][0] == "own":
                bound = bound + (one,)
            self.lay((one[1], 0, bound + (two,), ()))
        elif one[0] == "rest":
            self.go_on(one, two)
        else:
            self.stopped = ("stuck", "call")

    def go_on(self, rest, value):
        """Goes on with a rest, to which a value is given."""
        _, number, pieces = rest
        if self.is_moving and number in self.moved:
            self.stopped = ("spent", number)
            return
        self.moved[number] = True
        self.goings.append((number, sum([len(frames) for _, frames in pieces])))
        self.pieces = self.pieces + pieces
        self.put(value)

    def do(self, deed):
        operand = self.taken(1)[0]
        at = len(self.pieces) - 1
        while at >= 0 and row_block(self.pieces[at][0], deed) is None:
            at = at - 1
        if at < 0:
            self.stopped = ("unanswered", deed, shown_operand(operand))
            return
        answerer = self.pieces[at][0]
        rest = ("rest", self.many_rests, self.pieces[at:])
        self.many_rests = self.many_rests + 1
        self.pieces = self.pieces[:at]
        self.lay((row_block(answerer, deed), 0, answerer[1] + (operand, rest), ()))

    def change_pieces(self, order):
        """Does an "answer", a "plain" or a "return"."""
        frame = self.frame()
        if order[0] == "answer":
            self.pieces = self.pieces + (((order[2], frame[2]), ((order[1], 0, frame[2], ()),)),)
        elif order[0] == "plain":
            self.pieces = self.pieces[:-1]
            self.lay(frame)
        else:
            self.leave(frame[3][-1])

    def leave(self, value):
        """Takes the highest frame away, and gives a value to the one below."""
        answerer, frames = self.pieces[-1]
        if len(frames) == 1:
            self.pieces = ()
            self.stopped = ("value", shown_operand(value))
        else:
            self.with_frames(answerer, frames[:-1])
            self.put(value)

    def frames_in_pieces(self):
        return tuple([len(frames) for _, frames in self.pieces])
