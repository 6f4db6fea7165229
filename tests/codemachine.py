"""[29], [30] told with frames that are changed: a rest that moves gives its own frames away, one that copies keeps them."""


class Frame:

    def __init__(self, block, names):
        self.block = block
        self.place = 0
        self.names = list(names)
        self.operands = []

    def copy(self):
        frame = Frame(self.block, self.names)
        frame.place = self.place
        frame.operands = list(self.operands)
        return frame


class Piece:

    def __init__(self, answerer):
        self.answerer = answerer
        self.frames = []


class Rest:

    def __init__(self, number, pieces):
        self.number = number
        self.pieces = pieces


class Function:

    def __init__(self, block, names):
        self.block = block
        self.names = names


class Ended(Exception):
    pass


def shown(value):
    if isinstance(value, tuple):
        return (value[0], tuple(shown(part) for part in value[1]))
    return value if isinstance(value, int) else "fun"


def deep(value):
    return 1 + max((deep(part) for part in value[1]), default=0) if isinstance(value, tuple) else 1


class TooDeep(Exception):
    pass


def run(code, most, copies):
    """The end, the orders done, the frames copied, the goings, and the pieces; `copies` tells whether a going copies."""
    lowest = Piece(None)
    lowest.frames.append(Frame(0, []))
    state = {"pieces": [lowest], "rests": 0, "goings": [], "copied": 0}
    shapes = [[1]]
    done = 0
    end = ("more",)
    while done < most and end == ("more",):
        try:
            end = order(code, state, copies)
        except Ended as told:
            return told.args[0], done, state["copied"], state["goings"], shapes
        done += 1
        shapes.append([len(piece.frames) for piece in state["pieces"]])
    return end, done, state["copied"], state["goings"], shapes


def order(code, state, copies):
    pieces = state["pieces"]
    piece = pieces[-1]
    frame = piece.frames[-1]
    told = code[frame.block][2][frame.place]
    frame.place += 1
    word = told[0]
    operands = frame.operands
    if word == "num":
        operands.append(told[1])
    elif word == "get":
        operands.append(frame.names[len(frame.names) - 1 - told[1]])
    elif word in ("fun", "own"):
        operands.append(Function(told[1], list(frame.names)))
    elif word == "bind":
        frame.names.append(operands.pop())
    elif word == "free":
        del frame.names[len(frame.names) - told[1]:]
    elif word == "shape":
        parts = tuple(operands[len(operands) - told[2]:])
        del operands[len(operands) - told[2]:]
        operands.append((told[1], parts))
        if deep(operands[-1]) > 100:
            raise TooDeep()
    elif word == "op":
        two, one = operands.pop(), operands.pop()
        if not isinstance(one, int) or not isinstance(two, int):
            raise Ended(("stuck", "number"))
        if told[1] in "<=":
            operands.append(("Yes" if (one < two if told[1] == "<" else one == two) else "No", ()))
        else:
            number = {"+": one + two, "-": one - two, "*": one * two}[told[1]]
            if abs(number) > 10 ** 12:
                raise Ended(("stuck", "great"))
            operands.append(number)
    elif word == "test":
        names = []
        if fits(told[1], operands[-1], names):
            operands.pop()
            frame.names.extend(names)
        else:
            frame.place = told[2]
    elif word == "go":
        frame.place = told[1]
    elif word == "lack":
        raise Ended(("stuck", "match"))
    elif word == "call":
        two, one = operands.pop(), operands.pop()
        if isinstance(one, Function):
            own = [one] if code[one.block][0] == "own" else []
            piece.frames.append(Frame(one.block, one.names + own + [two]))
        elif isinstance(one, Rest):
            go_on(state, one, two, copies)
        else:
            raise Ended(("stuck", "call"))
    elif word == "return":
        value = operands.pop()
        piece.frames.pop()
        if not piece.frames:
            pieces.pop()
            return ("value", shown(value))
        piece.frames[-1].operands.append(value)
    elif word == "answer":
        higher = Piece((told[2], list(frame.names)))
        higher.frames.append(Frame(told[1], frame.names))
        pieces.append(higher)
    elif word == "plain":
        pieces.pop()
        pieces[-1].frames.append(frame)
    else:
        value = operands.pop()
        for at in range(len(pieces) - 1, -1, -1):
            if pieces[at].answerer and told[1] in dict(pieces[at].answerer[0]):
                rows, names = pieces[at].answerer
                rest = Rest(state["rests"], pieces[at:])
                state["rests"] += 1
                del pieces[at:]
                pieces[-1].frames.append(Frame(dict(rows)[told[1]], names + [value, rest]))
                return ("more",)
        raise Ended(("unanswered", told[1], shown(value)))
    return ("more",)


def go_on(state, rest, value, copies):
    if rest.pieces is None:
        raise Ended(("spent", rest.number))
    pieces = rest.pieces
    if copies(len(state["goings"])):
        pieces = []
        for piece in rest.pieces:
            copy = Piece(piece.answerer)
            copy.frames = [frame.copy() for frame in piece.frames]
            state["copied"] += len(copy.frames)
            pieces.append(copy)
    else:
        rest.pieces = None
    state["goings"].append(rest.number)
    state["pieces"].extend(pieces)
    pieces[-1].frames[-1].operands.append(value)


def fits(pattern, value, names):
    if pattern[0] == "bind":
        names.append(value)
    if pattern[0] in ("any", "bind"):
        return True
    if pattern[0] == "numis":
        return isinstance(value, int) and value == pattern[1]
    return (isinstance(value, tuple) and value[0] == pattern[1] and len(value[1]) == len(pattern[2])
            and all([fits(part, inner, names) for part, inner in zip(pattern[2], value[1])]))
